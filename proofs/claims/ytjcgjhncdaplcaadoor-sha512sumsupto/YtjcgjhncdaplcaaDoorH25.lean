/- rimeref03.May, rimelaw03.sameMid, sha512.Resume of what may not be gone on with. -/
import Derived.Test.YtjcgjhncdaplcaaDoorH23
set_option linter.unusedVariables false
set_option linter.unusedSimpArgs false
set_option linter.unnecessarySimpa false
namespace Go.Proofs.YtjcgjhncdaplcaaDoor
open Go.RowKit

/-- May a midstate be gone on with? -/
def may (k n : Nat) : Prop := n < 2305843009213693952 ∧ k = n % 128
theorem may_dec (k n : Nat) : may k n ∨ ¬ may k n := Classical.em _
set_option maxHeartbeats 4000000 in
set_option maxRecDepth 100000 in
theorem May_yes (s : Nat → Nat) (p : Option Addr) (k c n : Nat) (w : World) (h : may k n) :
    Calls Tryd.prog 37 #[.agg (mC s (.slice p k c) n)] w fun e w' => e = .returned (.int .i64 0) ∧ Chg w w' [] := by
  obtain ⟨h1, h2⟩ := h
  have hI : ¬ (2305843009213693952 : Int) ≤ (n : Int) := by omega
  have e1 : (n : Int).tmod 128 = (k : Int) := by rw [Int.tmod_eq_emod_of_nonneg (by omega)]; omega
  have e2 : IntKind.u64.wrap (k : Int) = (k : Int) := by rw [IntKind.wrap_u64]; omega
  obtain ⟨cm, hcm⟩ : ∃ cm, mC s (.slice p k c) n = cm := ⟨_, rfl⟩
  have A0 := Blk.new w cm 73
  have c8 : (w.alloc (.cells cm 73)).cell? ⟨w.heap.size, 8, none⟩ = some (.slice p k c) := (A0.cell 8).trans (by rw [← hcm]; exact mC_tail _ _ _)
  have c9 : (w.alloc (.cells cm 73)).cell? ⟨w.heap.size, 9, none⟩ = some (.int .u64 (n : Int)) := (A0.cell 9).trans (by rw [← hcm]; exact mC_len _ _ _)
  rw [hcm]
  clear h1 h2 hcm
  go_enter Tryd.func37, Tryd.ntmps37
  go_wp2_with fail
  go_ret
  exact ⟨rfl, (Chg.refl w []).alloc _⟩
set_option maxHeartbeats 4000000 in
set_option maxRecDepth 100000 in
theorem May_no (s : Nat → Nat) (p : Option Addr) (k c n : Nat) (w : World) (hk : k < 18446744073709551616) (h : ¬ may k n) :
    Calls Tryd.prog 37 #[.agg (mC s (.slice p k c) n)] w fun e w' => e = .returned (.int .i64 1) ∧ Chg w w' [] := by
  obtain ⟨cm, hcm⟩ : ∃ cm, mC s (.slice p k c) n = cm := ⟨_, rfl⟩
  have A0 := Blk.new w cm 73
  have c8 : (w.alloc (.cells cm 73)).cell? ⟨w.heap.size, 8, none⟩ = some (.slice p k c) := (A0.cell 8).trans (by rw [← hcm]; exact mC_tail _ _ _)
  have c9 : (w.alloc (.cells cm 73)).cell? ⟨w.heap.size, 9, none⟩ = some (.int .u64 (n : Int)) := (A0.cell 9).trans (by rw [← hcm]; exact mC_len _ _ _)
  have e2 : IntKind.u64.wrap (k : Int) = (k : Int) := by rw [IntKind.wrap_u64]; omega
  rw [hcm]
  clear hcm
  by_cases h1 : n < 2305843009213693952
  · have hI : ¬ (2305843009213693952 : Int) ≤ (n : Int) := by omega
    obtain ⟨r, hr⟩ : ∃ r, n % 128 = r := ⟨_, rfl⟩
    have e1 : (n : Int).tmod 128 = (r : Int) := by rw [Int.tmod_eq_emod_of_nonneg (by omega)]; omega
    have hne : ((k : Int) != (r : Int)) = true := by
      rw [bne_iff_ne]
      intro hx
      exact h ⟨h1, by omega⟩
    clear h h1 hr
    go_enter Tryd.func37, Tryd.ntmps37
    go_wp2_with fail
    go_ret
    exact ⟨rfl, (Chg.refl w []).alloc _⟩
  · have hI : (2305843009213693952 : Int) ≤ (n : Int) := by omega
    clear h h1
    go_enter Tryd.func37, Tryd.ntmps37
    go_wp2_with fail
    go_ret
    exact ⟨rfl, (Chg.refl w []).alloc _⟩
set_option maxHeartbeats 4000000 in
set_option maxRecDepth 100000 in
theorem Resume_no (s : Nat → Nat) (p : Option Addr) (k c n : Nat) (w : World) (hk : k < 18446744073709551616) (h : ¬ may k n) :
    Calls Tryd.prog 36 #[.agg (mC s (.slice p k c) n)] w fun e w' => e = .returned (.tuple #[.pointer none, .int .i64 1]) ∧ Chg w w' [] := by
  obtain ⟨cm, hcm⟩ : ∃ cm, mC s (.slice p k c) n = cm := ⟨_, rfl⟩
  have A0 := Blk.new w cm 73
  have c8 : (w.alloc (.cells cm 73)).cell? ⟨w.heap.size, 8, none⟩ = some (.slice p k c) := (A0.cell 8).trans (by rw [← hcm]; exact mC_tail _ _ _)
  have c9 : (w.alloc (.cells cm 73)).cell? ⟨w.heap.size, 9, none⟩ = some (.int .u64 (n : Int)) := (A0.cell 9).trans (by rw [← hcm]; exact mC_len _ _ _)
  have e2 : IntKind.u64.wrap (k : Int) = (k : Int) := by rw [IntKind.wrap_u64]; omega
  rw [hcm]
  clear hcm
  obtain ⟨r, hr⟩ : ∃ r, n % 128 = r := ⟨_, rfl⟩
  have e1 : (n : Int).tmod 128 = (r : Int) := by rw [Int.tmod_eq_emod_of_nonneg (by omega)]; omega
  by_cases h1 : k = r
  · have hI : (2305843009213693952 : Int) ≤ (n : Int) := by
      rcases Nat.lt_or_ge n 2305843009213693952 with h2 | h2
      · exact absurd ⟨h2, by omega⟩ h
      · omega
    subst h1
    clear h hr
    go_enter Tryd.func36, Tryd.ntmps36
    go_wp2_with fail
    go_ret2
    exact ⟨rfl, (Chg.refl w []).alloc _⟩
  · have hne : ((k : Int) != (r : Int)) = true := by
      rw [bne_iff_ne]
      omega
    clear h h1 hr
    go_enter Tryd.func36, Tryd.ntmps36
    go_wp2_with fail
    go_ret2
    exact ⟨rfl, (Chg.refl w []).alloc _⟩
set_option maxHeartbeats 4000000 in
set_option maxRecDepth 100000 in
/-- Two midstates that are one. -/
theorem sameMid_t (s t : Nat → Nat) (v u : Value) (k n : Nat) (w : World) (hs : ∀ i, i < 8 → U (s i)) (hv : Sl w v k t) (hu : Sl w u k t) :
    Calls Tryd.prog 33 #[.agg (mC s v n), .agg (mC s u n)] w fun e w' => e = .returned (.bool true) ∧ Chg w w' [] := by
  have hge := s8Guard
  have HE : Hid (eqw 8 s s = true) := eqw_self 8 s
  have heq := eq_s8 s s
  rw [HE.out] at heq
  have HA8 : Hid (∀ W b T, Blk W b (mC s v n) T → W.cell? ⟨b, 8, none⟩ = some v ∧ W.cell? ⟨b, 9, none⟩ = some (.int .u64 (n : Int)) ∧ W.rangeAt b 0 (vL 8 s)) := fun W b T h => ⟨(h.cell 8).trans (mC_tail _ _ _), (h.cell 9).trans (mC_len _ _ _), mid_range h⟩
  have HB8 : Hid (∀ W b T, Blk W b (mC s u n) T → W.cell? ⟨b, 8, none⟩ = some u ∧ W.cell? ⟨b, 9, none⟩ = some (.int .u64 (n : Int)) ∧ W.rangeAt b 0 (vL 8 s)) := fun W b T h => ⟨(h.cell 8).trans (mC_tail _ _ _), (h.cell 9).trans (mC_len _ _ _), mid_range h⟩
  have HLN : Hid ((vL 8 s).length = 8) := vL_len _ _
  have HLA : Hid ((vL 8 s).toArray = vC 8 s) := vL_arr _ _
  obtain ⟨ca, hca⟩ : ∃ c, mC s v n = c := ⟨_, rfl⟩
  obtain ⟨cb, hcb⟩ : ∃ c, mC s u n = c := ⟨_, rfl⟩
  obtain ⟨l8, hl8⟩ : ∃ l, vL 8 s = l := ⟨_, rfl⟩
  obtain ⟨c8, hc8⟩ : ∃ c, vC 8 s = c := ⟨_, rfl⟩
  rw [hca, hl8] at HA8
  rw [hcb, hl8] at HB8
  rw [hl8] at HLN HLA
  rw [hc8] at HLA heq
  rw [hca, hcb]
  have A0 : Blk ((w.alloc (.cells ca 73)).alloc (.cells cb 73)) w.heap.size ca 73 := (Blk.new _ _ _).alloc _
  have B0 : Blk ((w.alloc (.cells ca 73)).alloc (.cells cb 73)) (w.heap.size + 1) cb 73 := by have h := Blk.new (w.alloc (.cells ca 73)) cb 73; simpa using h
  have C0 : Chg w ((w.alloc (.cells ca 73)).alloc (.cells cb 73)) [] := ((Chg.refl w []).alloc _).alloc _
  obtain ⟨a8, a9, ar⟩ := HA8.out _ _ _ A0
  obtain ⟨b8, b9, br⟩ := HB8.out _ _ _ B0
  have hv0 := hv.chg C0 (Off.nil _)
  have hu0 := hu.chg C0 (Off.nil _)
  clear hca hcb hl8 hc8 A0 B0 HA8 HB8 hv hu hs
  go_enter Tryd.func33, Tryd.ntmps33
  go_wp2_with (first
    | (with_reducible refine wpList_load_mid ?_ 53 (.tmp 5) ?_ w.heap.size 0 ?_ l8 _ ar Tryd.underlying53 ?_ ?_ ?_
       · rfl
       · rfl
       · rfl
       · rfl
       · (rw [HLN.out]; exact S8Info)
       rw [HLA.out])
    | (with_reducible refine wpList_load_mid ?_ 53 (.tmp 7) ?_ (w.heap.size + 1) 0 ?_ l8 _ br Tryd.underlying53 ?_ ?_ ?_
       · rfl
       · rfl
       · rfl
       · rfl
       · (rw [HLN.out]; exact S8Info)
       rw [HLA.out]))
  refine (SameBytes_sl v u k t _ hv0 hu0).mono ?_
  rintro e w1 ⟨rfl, k1⟩
  replace C0 := C0.trans1 k1
  clear k1
  go_wp2_with fail
  go_ret
  exact ⟨rfl, C0⟩
end Go.Proofs.YtjcgjhncdaplcaaDoor
