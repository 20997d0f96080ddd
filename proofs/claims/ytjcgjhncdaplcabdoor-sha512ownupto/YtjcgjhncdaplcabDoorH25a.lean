/- == on digests and on eight words; SameBytes of slices that may be nil; sameMid. -/
import Derived.Test.YtjcgjhncdaplcabDoorH13
import Derived.Test.YtjcgjhncdaplcabDoorGiv
set_option linter.unusedVariables false
set_option linter.unusedSimpArgs false
set_option linter.unnecessarySimpa false
namespace Go.Proofs.YtjcgjhncdaplcabDoor
open Go.RowKit

theorem u8InfoE : ∃ i, Tryd.prog.info? 5 = some i := Option.isSome_iff_exists.1 (by kernel_rfl)
theorem u8CellsE : Tryd.prog.cellsOf 5 = 1 := by kernel_rfl
/-- Are 64 bytes the same? -/
def eqy (f g : Nat → Nat) : Bool := (List.range 64).all fun i => ((f i : Nat) : Int) == ((g i : Nat) : Int)
theorem eqy_self (f : Nat → Nat) : eqy f f = true := by simp [eqy]
@[go_sem] theorem eq_dig (f g : Nat → Nat) (w : World) : (Op.equalIn 10000 65 (.agg (yC 64 f)) (.agg (yC 64 g))).run Tryd.prog w = .ok (eqy f g) w := by
  obtain ⟨i, hi⟩ := u8InfoE
  rw [show (10000 : Nat) = 9998 + 1 + 1 from rfl, run_equalIn_array w 9999 _ _ Tryd.underlying65 hi, u8CellsE]
  exact eqItems_ints w 9998 Tryd.underlying5 _ _ (fun i => ((f i : Nat) : Int)) (fun i => ((g i : Nat) : Int)) (List.range 64) (fun j hj => ⟨yC_get 64 f j (by simpa using hj), yC_get 64 g j (by simpa using hj)⟩)
theorem u64InfoE : ∃ i, Tryd.prog.info? 28 = some i := Option.isSome_iff_exists.1 (by kernel_rfl)
theorem u64CellsE : Tryd.prog.cellsOf 28 = 1 := by kernel_rfl
/-- Are n words the same? -/
def eqw (n : Nat) (f g : Nat → Nat) : Bool := (List.range n).all fun i => ((f i : Nat) : Int) == ((g i : Nat) : Int)
theorem eqw_self (n : Nat) (f : Nat → Nat) : eqw n f f = true := by simp [eqw]
@[go_sem] theorem eq_s8 (f g : Nat → Nat) (w : World) : (Op.equalIn 10000 29 (.agg (vC 8 f)) (.agg (vC 8 g))).run Tryd.prog w = .ok (eqw 8 f g) w := by
  obtain ⟨i, hi⟩ := u64InfoE
  rw [show (10000 : Nat) = 9998 + 1 + 1 from rfl, run_equalIn_array w 9999 _ _ Tryd.underlying29 hi, u64CellsE]
  exact eqItems_ints w 9998 Tryd.underlying28 _ _ (fun i => ((f i : Nat) : Int)) (fun i => ((g i : Nat) : Int)) (List.range 8) (fun j hj => ⟨vC_get 8 f j (by simpa using hj), vC_get 8 g j (by simpa using hj)⟩)
theorem s8Guard : Tryd.prog.eqGuardType Tryd.prog.depth 29 = false := by kernel_rfl
theorem SameBytes_0 (p p' : Option Addr) (c c' : Nat) (w : World) : Calls Tryd.prog 70 #[.slice p 0 c, .slice p' 0 c'] w fun e w' => e = .returned (.bool true) ∧ Chg w w' [] := by
  go_enter Tryd.func70, Tryd.ntmps70
  go_wp2_with fail
  go_loopw [5] (fun t wr => t = .int .i64 0 ∧ Chg w wr []) (fun _ _ => 0)
  case atStart => exact ⟨rfl, Chg.refl w []⟩
  case round =>
    obtain ⟨rfl, cc⟩ := hrel
    go_wp2_with fail
    go_ret
    exact ⟨rfl, cc⟩
theorem SameBytes_sl (v u : Value) (n : Nat) (f : Nat → Nat) (w : World) (hv : Sl w v n f) (hu : Sl w u n f) : Calls Tryd.prog 70 #[v, u] w fun e w' => e = .returned (.bool true) ∧ Chg w w' [] := by
  by_cases h0 : n = 0
  · subst h0
    have form : ∀ x, Sl w x 0 f → ∃ p c, x = .slice p 0 c := by
      intro x hx
      rcases hx with ⟨_, e⟩ | ⟨g, o, c, e, _⟩
      · exact ⟨_, _, e⟩
      · exact ⟨_, _, e⟩
    obtain ⟨p, c, rfl⟩ := form v hv
    obtain ⟨p', c', rfl⟩ := form u hu
    exact SameBytes_0 p p' c c' w
  rcases hv with ⟨h, _⟩ | ⟨g, o, c, rfl, hn, hc, hb⟩
  · omega
  rcases hu with ⟨h, _⟩ | ⟨g', o', c', rfl, hn', hc', hb'⟩
  · omega
  refine (SameBytes_g g o c g' o' c' n f f w (by omega) hb hb' (fun _ _ => rfl)).mono ?_
  rintro e w' ⟨rfl, m, rfl⟩
  exact ⟨rfl, (Chg.refl w []).drewN m⟩
set_option maxHeartbeats 4000000 in
set_option maxRecDepth 100000 in
/-- Two midstates that are one. -/
theorem sameMid_t (s t : Nat → Nat) (v u : Value) (k n : Nat) (w : World) (hs : ∀ i, i < 8 → U (s i)) (hv : Sl w v k t) (hu : Sl w u k t) :
    Calls Tryd.prog 44 #[.agg (mC s v n), .agg (mC s u n)] w fun e w' => e = .returned (.bool true) ∧ Chg w w' [] := by
  have hge := s8Guard
  have HE : Hid (eqw 8 s s = true) := eqw_self 8 s
  have heq := eq_s8 s s
  rw [HE.out] at heq
  have HA8 : Hid (∀ W b T, Blk W b (mC s v n) T → W.cell? ⟨b, 8, none⟩ = some v ∧ W.cell? ⟨b, 9, none⟩ = some (.int .u64 (n : Int)) ∧ W.rangeAt b 0 (vL 8 s)) := fun W b T h => ⟨(h.cell 8).trans (mC_tail _ _ _), (h.cell 9).trans (mC_len _ _ _), mid_range h⟩
  have HB8 : Hid (∀ W b T, Blk W b (mC s u n) T → W.cell? ⟨b, 8, none⟩ = some u ∧ W.cell? ⟨b, 9, none⟩ = some (.int .u64 (n : Int)) ∧ W.rangeAt b 0 (vL 8 s)) := fun W b T h => ⟨(h.cell 8).trans (mC_tail _ _ _), (h.cell 9).trans (mC_len _ _ _), mid_range h⟩
  have HLN : Hid ((vL 8 s).length = 8) := vL_len _ _
  have HLA : Hid ((vL 8 s).toArray = vC 8 s) := vL_arr _ _
  obtain ⟨ca, hca⟩ : ∃ c, mC s v n = c := ⟨_, rfl⟩
  obtain ⟨cb, hcb⟩ : ∃ c, mC s u n = c := ⟨_, rfl⟩
  obtain ⟨l8, hl8⟩ : ∃ l, vL 8 s = l := ⟨_, rfl⟩
  obtain ⟨c8, hc8⟩ : ∃ c, vC 8 s = c := ⟨_, rfl⟩
  rw [hca, hl8] at HA8
  rw [hcb, hl8] at HB8
  rw [hl8] at HLN HLA
  rw [hc8] at HLA heq
  rw [hca, hcb]
  have A0 : Blk ((w.alloc (.cells ca 31)).alloc (.cells cb 31)) w.heap.size ca 31 := (Blk.new _ _ _).alloc _
  have B0 : Blk ((w.alloc (.cells ca 31)).alloc (.cells cb 31)) (w.heap.size + 1) cb 31 := by have h := Blk.new (w.alloc (.cells ca 31)) cb 31; simpa using h
  have C0 : Chg w ((w.alloc (.cells ca 31)).alloc (.cells cb 31)) [] := ((Chg.refl w []).alloc _).alloc _
  obtain ⟨a8, a9, ar⟩ := HA8.out _ _ _ A0
  obtain ⟨b8, b9, br⟩ := HB8.out _ _ _ B0
  have hv0 := hv.chg C0 (Off.nil _)
  have hu0 := hu.chg C0 (Off.nil _)
  clear hca hcb hl8 hc8 A0 B0 HA8 HB8 hv hu hs
  go_enter Tryd.func44, Tryd.ntmps44
  go_wp2_with (first
    | (with_reducible refine wpList_load_mid ?_ 29 (.tmp 5) ?_ w.heap.size 0 ?_ l8 _ ar Tryd.underlying29 ?_ ?_ ?_
       · rfl
       · rfl
       · rfl
       · rfl
       · (rw [HLN.out]; exact S8Info)
       rw [HLA.out])
    | (with_reducible refine wpList_load_mid ?_ 29 (.tmp 7) ?_ (w.heap.size + 1) 0 ?_ l8 _ br Tryd.underlying29 ?_ ?_ ?_
       · rfl
       · rfl
       · rfl
       · rfl
       · (rw [HLN.out]; exact S8Info)
       rw [HLA.out]))
  refine (SameBytes_sl v u k t _ hv0 hu0).mono ?_
  rintro e w1 ⟨rfl, k1⟩
  replace C0 := C0.trans1 k1
  clear k1
  go_wp2_with fail
  go_ret
  exact ⟨rfl, C0⟩
end Go.Proofs.YtjcgjhncdaplcabDoor
