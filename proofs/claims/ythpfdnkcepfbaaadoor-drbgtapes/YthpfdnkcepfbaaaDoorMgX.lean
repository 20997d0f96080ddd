/- Joined: Dr22, Dr23. -/
import Derived.Test.YthpfdnkcepfbaaaDoorDr21
import Derived.Test.YthpfdnkcepfbaaaDoorTkRef
import Derived.Test.YthpfdnkcepfbaaaDoorMgW
/- nextScalar, Scalars of a tape; rimeref11.Two. -/
set_option linter.unusedVariables false
set_option linter.unusedSimpArgs false
set_option linter.unnecessarySimpa false
namespace Go.Proofs.YthpfdnkcepfbaaaDoor
open Go.RowKit N

theorem zeroScQ : (Tryd.prog.info? 86).bind (·.zero) = some (.agg (feC 0)) := by kernel_rfl
theorem builtSc0 : Tryd.prog.built 86 [] = some (feC 0) := by kernel_rfl
/-- A scalar of two. -/
def tw (a b : Nat → Nat) : Int := ((nb (cat a 32 b) 0 64 : Nat) : Int) % L
set_option maxHeartbeats 8000000 in
set_option maxRecDepth 100000 in
theorem nextScalar_ok {b : Nat} {w : World} {tb n : Nat} {r : Nat → Nat → Nat} (h : TS b w tb (n + 2) r) (hb : b ≤ w.heap.size) (hr : ∀ j, j < n + 2 → ∀ i, i < 32 → r j i < 256) :
    Calls Tryd.prog 70 #[.iface 81 (.pointer (some ⟨tb, 0, none⟩))] w fun e w' => e = .returned (.tuple #[fe (tw (r 0) (r 1)), .int .i64 0]) ∧ TS b w' tb n (fun j => r (j + 2)) ∧ Chg w w' [tb] := by
  have HT : Hid (TS b w tb (n + 1 + 1) r ∧ b ≤ w.heap.size) := ⟨h, hb⟩
  have HFA : Hid (∀ i, i < 32 → r 0 i < 256) := hr 0 (by omega)
  have HFB : Hid (∀ i, i < 32 → r 1 i < 256) := hr 1 (by omega)
  have HTL : Hid (tb < b) := h.1
  have HX : Hid (((nb (cat (r 0) 32 (r 1)) 0 64 : Nat) : Int) % L = tw (r 0) (r 1)) := rfl
  obtain ⟨X, hX⟩ : ∃ z, tw (r 0) (r 1) = z := ⟨_, rfl⟩
  rw [hX] at HX ⊢
  have HA : Hid (∀ W, TS b W tb (n + 1 + 1) r → b ≤ W.heap.size → Calls Tryd.prog 103 #[.iface 81 (.pointer (some ⟨tb, 0, none⟩))] W fun e w' => e = .returned (.tuple #[.agg (yC 32 (r 0)), .int .i64 0]) ∧ TS b w' tb (n + 1) (fun j => r (j + 1)) ∧ Chg W w' [tb]) := fun W t hb => ask_ok t hb
  have HA2 : Hid (∀ W, TS b W tb (n + 1) (fun j => r (j + 1)) → b ≤ W.heap.size → Calls Tryd.prog 103 #[.iface 81 (.pointer (some ⟨tb, 0, none⟩))] W fun e w' => e = .returned (.tuple #[.agg (yC 32 (r 1)), .int .i64 0]) ∧ TS b w' tb n (fun j => r (j + 2)) ∧ Chg W w' [tb]) := fun W t hb => ask_ok t hb
  obtain ⟨fa, hfa⟩ : ∃ z, r 0 = z := ⟨_, rfl⟩
  obtain ⟨fb, hfb⟩ : ∃ z, r 1 = z := ⟨_, rfl⟩
  rw [hfa] at HFA HX HA
  rw [hfb] at HFB HX HA2
  obtain ⟨ib, hib, hibz, hibs, _⟩ := bytesRow
  clear h hb hr hX hfa hfb
  go_enter Tryd.func70, Tryd.ntmps70
  go_upto_region 1 with (with_reducible refine alloc_w rfl 86 rfl (.agg (feC 0)) zeroScQ (feC 0) rfl ?_; intro rb w1 hrb BR k1)
  have T1 := HT.out.1.chg k1
  have HRB0 : Hid (w.heap.size ≤ rb ∧ b ≤ w1.heap.size) := ⟨hrb, Nat.le_trans HT.out.2 k1.size⟩
  go_wp2_with fail
  refine (HA.out w1 T1 HRB0.out.2).mono ?_
  rintro e w2 ⟨rfl, T2, k2⟩
  have BR2 := BR.chg k2 (by have := HTL.out; have := HT.out.2; have := HRB0.out; simp; omega)
  have C2 : Chg w w2 [tb] := (k1.wide (l := [tb])).trans1 k2
  clear k1 k2 T1 BR hrb
  go_upto_region 4 with (first
    | (refine store_w BA rfl 69 _ _ (yC 32 fa) rfl rfl rfl (by rw [yC_size]; exact randInfo) (by rw [yC_size, yC_size]) (yC_one 32 _) ?_; intro w4 BA4 k4)
    | (with_reducible refine alloc_w rfl 69 rfl (.agg (yC 32 (fun _ => 0))) zeroRand (yC 32 (fun _ => 0)) rfl ?_; intro la w3 hla BA k3))
  have c4 : Chg w2 w4 [] := k3.new k4 hla
  have T4 := T2.chg c4
  have BR4 := BR2.chg c4 (by simp)
  have C4 : Chg w w4 [tb] := C2.trans c4 (by simp)
  have HLA4 : Hid (rb < la ∧ b ≤ w4.heap.size ∧ tb < la) := ⟨by have := BR2.lt; omega, by have := HRB0.out; have := HT.out.2; have := C4.size; omega, by have := T2.lt; omega⟩
  clear k3 k4 c4 BA T2 BR2 C2 hla
  go_wp2_with fail
  refine (HA2.out w4 T4 HLA4.out.2.1).mono ?_
  rintro e w5 ⟨rfl, T5, k5⟩
  have BR5 := BR4.chg k5 (by have := HTL.out; have := HT.out.2; have := HRB0.out; simp; omega)
  have BA5 := BA4.chg k5 (by have := HLA4.out; simp; omega)
  have C5 : Chg w w5 [tb] := C4.trans1 k5
  clear k5 T4 BR4 BA4 C4
  go_upto_region 7 with (first
    | (refine store_w BB rfl 69 _ _ (yC 32 fb) rfl rfl rfl (by rw [yC_size]; exact randInfo) (by rw [yC_size, yC_size]) (yC_one 32 _) ?_; intro w9 BB9 k9)
    | (with_reducible refine alloc_w rfl 69 rfl (.agg (yC 32 (fun _ => 0))) zeroRand (yC 32 (fun _ => 0)) rfl ?_; intro lb w8 hlb BB k8))
  have c9 : Chg w5 w9 [] := k8.new k9 hlb
  have T9 := T5.chg c9
  have BR9 := BR5.chg c9 (by simp)
  have HLA : Hid (Blk w9 la (yC 32 fa) 69) := BA5.chg c9 (by simp)
  have HLB : Hid (Blk w9 lb (yC 32 fb) 69) := BB9
  have C9 : Chg w w9 [tb] := C5.trans c9 (by simp)
  have HRB : Hid (w.heap.size ≤ rb ∧ b ≤ rb) := ⟨HRB0.out.1, Nat.le_trans HT.out.2 HRB0.out.1⟩
  have HNR : Hid (¬ la ∈ [rb] ∧ ¬ lb ∈ [rb]) := ⟨by have := HLA4.out; simp; omega, by have := BR5.lt; simp; omega⟩
  clear k8 k9 c9 BB BB9 T5 BR5 BA5 C5 hlb
  refine wp_region_held_drew (S := fun w' => Chg w9 w' [rb]) (by kernel_rfl) ((Chg.refl w9 _).drew) (fun hHeld => ?_)
  refine take_val (v := (.slice (some ⟨la, 0, none⟩) 32 32)) 0 (some 25) rfl (by kernel_rfl) (by kernel_rfl) (by kernel_rfl) (fun _ _ _ h => h) rfl rfl (fun w hSw => ?_) hHeld ?_
  · (go_simp; try with_reducible rfl)
  try simp only [Act.put, List.setIfInBounds_toArray, List.set_cons_zero, List.set_cons_succ]
  refine take_val (v := (.slice (some ⟨lb, 0, none⟩) 32 32)) 1 (some 26) rfl (by kernel_rfl) (by kernel_rfl) (by kernel_rfl) (fun _ _ _ h => h) rfl rfl (fun w hSw => ?_) hHeld ?_
  · (go_simp; try with_reducible rfl)
  try simp only [Act.put, List.setIfInBounds_toArray, List.set_cons_zero, List.set_cons_succ]
  refine wpAnyH_ready (rs := [2]) (by kernel_rfl) (by simp) ?_
  refine AllReadyH.cons (o := _) rfl (fun K' hK => ?_) ?_
  ·
    rw [if_pos (by rfl)]
    refine wp_bsl_o 23 22 2 #[(0, .tmp 25), (1, .tmp 26)] rfl [(0, .slice (some ⟨la, 0, none⟩) 32 32), (1, .slice (some ⟨lb, 0, none⟩) 32 32)] (by simp [Act.eval]) #[.slice (some ⟨la, 0, none⟩) 32 32, .slice (some ⟨lb, 0, none⟩) 32 32] ib (.slice none 0 0) Tryd.underlying23 hib hibz 1 hibs (by omega) (by omega) (fillS2 _ _ _ _ _ _) ?_
    intro gl v2 hgl BL k2
    change K' (Act.put _ (some 27) _) _
    refine hK.out _ _ (hHeld.trans k2 (by simp)) (fun hHeld => ?_)
    clear hK K'
    try simp only [Act.put, List.setIfInBounds_toArray, List.set_cons_zero, List.set_cons_succ]
    have BRX := BR9.drew.chg k2 (by simp)
    clear k2
    refine wpAnyH_ready (rs := [3]) (by kernel_rfl) (by simp) ?_
    refine AllReadyH.cons (o := _) rfl (fun K' hK => ?_) ?_
    ·
      go_simp
      have SA := (HLA.out.chg hHeld HNR.out.1).slT HFA.out (by omega)
      have SB := (HLB.out.chg hHeld HNR.out.2).slT HFB.out (by omega)
      refine (Concat_2 gl 2 _ _ 32 32 fa fb (by omega) (by omega) _ BL SA SB).mono ?_
      rintro e v3 ⟨cv, rfl, OC, k3⟩
      obtain ⟨cg, cc, rfl, _, hc1, hc2, BC⟩ := OC.form (by omega)
      go_wp2_with fail
      refine hK.out _ _ (hHeld.trans k3 (by simp)) (fun hHeld => ?_)
      clear hK K'
      try simp only [Act.put, List.setIfInBounds_toArray, List.set_cons_zero, List.set_cons_succ]
      replace BRX := BRX.chg k3 (by simp)
      clear k3
      refine wpAnyH_ready (rs := [4]) (by kernel_rfl) (by simp) ?_
      refine AllReadyH.cons (o := _) rfl (fun K' hK => ?_) ?_
      ·
        go_simp
        refine (Reduce_b cg 0 cc 64 (cat fa 32 fb) hc1 hc2 (by omega) _ BC).mono ?_
        rintro e v4 ⟨rfl, k4⟩
        rw [HX.out]
        go_wp2_with fail
        refine hK.out _ _ (hHeld.trans k4 (by simp)) (fun hHeld => ?_)
        clear hK K'
        try simp only [Act.put, List.setIfInBounds_toArray, List.set_cons_zero, List.set_cons_succ]
        replace BRX := BRX.chg k4 (by simp)
        clear k4
        refine wpAnyH_ready (rs := [5]) (by kernel_rfl) (by simp) ?_
        refine AllReadyH.cons (o := _) rfl (fun K' hK => ?_) ?_
        ·
          rw [if_pos (by rfl)]
          refine wp_store_w BRX 86 _ _ (feC X) rfl rfl rfl (by exact feInfo) (by rfl) (feC_one _) ?_
          intro v5 BR5 k5
          refine hK.out _ _ (hHeld.trans1 k5) (fun hHeld => ?_)
          clear hK K'
          try simp only [Act.put, List.setIfInBounds_toArray, List.set_cons_zero, List.set_cons_succ]
          clear k5
          refine take_val (v := ?_) 6 (some 3) rfl (by kernel_rfl) (by kernel_rfl) (by kernel_rfl) (fun _ _ _ h => h) rfl rfl (fun w hSw => ?_) hHeld ?_
          rotate_left
          · (go_simp; try with_reducible rfl)
          try simp only [Act.put, List.setIfInBounds_toArray, List.set_cons_zero, List.set_cons_succ]
          refine wpAnyH_done (by kernel_rfl) ?_ _
          obtain ⟨wz, rfl⟩ : ∃ z, z = v5 := ⟨v5, rfl⟩
          have CZ : Chg w wz [tb] := C9.new hHeld HRB.out.1
          have TZ := T9.far hHeld (fun y hy => by have := HRB.out; simp at hy; omega)
          clear hHeld BRX BR9 T9 C9
          go_wp2_with fail
          exact bodyPost_ret (results_cell_tmp Tryd.results70 _ _ rb 86 (feC X) _ (.int .i64 0) rfl rfl BR5 Tryd.underlying86 rfl feInfo) rfl ⟨rfl, TZ, CZ⟩
        exact AllReadyH.nil
      exact AllReadyH.nil
    exact AllReadyH.nil
  exact AllReadyH.nil
set_option maxHeartbeats 8000000 in
set_option maxRecDepth 100000 in
theorem nextScalar_end {b : Nat} {w : World} {tb n : Nat} {r : Nat → Nat → Nat} (h : TS b w tb n r) (hn : n < 2) (hb : b ≤ w.heap.size) :
    Calls Tryd.prog 70 #[.iface 81 (.pointer (some ⟨tb, 0, none⟩))] w fun e w' => e = .returned (.tuple #[fe 0, .int .i64 122]) ∧ (∀ s, TS b w' tb 0 s) ∧ Chg w w' [tb] := by
  have HTL : Hid (tb < b ∧ b ≤ w.heap.size) := ⟨h.1, hb⟩
  obtain ⟨SZ, hSZ⟩ : ∃ z, feC 0 = z := ⟨_, rfl⟩
  have HZ1 : Hid (SZ.size = 32 ∧ SZ.all (·.oneCell') = true) := by rw [← hSZ]; exact ⟨rfl, feC_one 0⟩
  have HBS : Hid (Tryd.prog.built 86 [] = some SZ) := by show _ = _; rw [← hSZ]; exact builtSc0
  have HZS : Hid ((Tryd.prog.info? 86).bind (·.zero) = some (.agg SZ)) := by show _ = _; rw [← hSZ]; exact zeroScQ
  have HZI : Hid ((Tryd.prog.info? 86).map (·.size) = some SZ.size) := by show _ = _; rw [HZ1.out.1]; exact feInfo
  show Calls Tryd.prog 70 #[.iface 81 (.pointer (some ⟨tb, 0, none⟩))] w fun e w' => e = .returned (.tuple #[.agg (feC 0), .int .i64 122]) ∧ (∀ s, TS b w' tb 0 s) ∧ Chg w w' [tb]
  rw [hSZ]
  by_cases h0 : n = 0
  · subst h0
    have HT : Hid (TS b w tb 0 r) := h
    obtain ⟨Z, hZ⟩ : ∃ z, (fun _ : Nat => (0 : Nat)) = z := ⟨_, rfl⟩
    have HA : Hid (∀ W, TS b W tb 0 r → b ≤ W.heap.size → Calls Tryd.prog 103 #[.iface 81 (.pointer (some ⟨tb, 0, none⟩))] W fun e w' => e = .returned (.tuple #[.agg (yC 32 Z), .int .i64 122]) ∧ TS b w' tb 0 r ∧ Chg W w' [tb]) := fun W t hb => by rw [← hZ]; exact ask_end t hb
    clear h hb hn hSZ hZ
    go_enter Tryd.func70, Tryd.ntmps70
    go_upto_region 1 with (refine alloc_w rfl 86 rfl (.agg SZ) HZS.out SZ rfl ?_; intro rb w1 hrb BR k1)
    have HRB : Hid (w.heap.size ≤ rb ∧ b ≤ w1.heap.size) := ⟨hrb, Nat.le_trans HTL.out.2 k1.size⟩
    go_wp2_with fail
    refine (HA.out w1 (HT.out.chg k1) HRB.out.2).mono ?_
    rintro e w2 ⟨rfl, T2, k2⟩
    have BR2 := BR.chg k2 (by have := HTL.out; have := HRB.out; simp; omega)
    have C2 : Chg w w2 [tb] := (k1.wide (l := [tb])).trans1 k2
    clear k1 k2 BR hrb
    go_upto_region 3 with (first
      | (refine store_w BA rfl 69 _ _ (yC 32 Z) rfl rfl rfl (by rw [yC_size]; exact randInfo) (by rw [yC_size, yC_size]) (yC_one 32 _) ?_; intro w4 BA4 k4)
      | (with_reducible refine alloc_w rfl 69 rfl (.agg (yC 32 (fun _ => 0))) zeroRand (yC 32 (fun _ => 0)) rfl ?_; intro la w3 hla BA k3))
    have c4 : Chg w2 w4 [] := k3.new k4 hla
    have T4 := T2.chg c4
    have BR4 := BR2.chg c4 (by simp)
    have C4 : Chg w w4 [tb] := C2.trans c4 (by simp)
    clear k3 k4 c4 BA BA4 T2 BR2 C2 hla
    go_wp2_with (first
      | (refine store_w BR4 rfl 86 _ _ SZ rfl rfl rfl HZI.out rfl HZ1.out.2 ?_; intro w5 BR5 k5)
      | (refine wpList_build_c rfl 86 _ rfl SZ (by go_simp; exact HBS.out) ?_))
    exact bodyPost_ret (results_cell_tmp Tryd.results70 _ _ rb 86 SZ _ (.int .i64 122) rfl rfl BR5 Tryd.underlying86 rfl HZI.out) rfl ⟨rfl, fun s => (T4.far k5 (fun y hy => by have := HTL.out; have := HRB.out; simp at hy; omega)).cong (fun j hj => by omega), C4.new k5 HRB.out.1⟩
  · obtain rfl : n = 1 := by omega
    have HT : Hid (TS b w tb (0 + 1) r) := h
    obtain ⟨Z, hZ⟩ : ∃ z, (fun _ : Nat => (0 : Nat)) = z := ⟨_, rfl⟩
    have HA : Hid (∀ W, TS b W tb (0 + 1) r → b ≤ W.heap.size → Calls Tryd.prog 103 #[.iface 81 (.pointer (some ⟨tb, 0, none⟩))] W fun e w' => e = .returned (.tuple #[.agg (yC 32 (r 0)), .int .i64 0]) ∧ TS b w' tb 0 (fun j => r (j + 1)) ∧ Chg W w' [tb]) := fun W t hb => ask_ok t hb
    have HA2 : Hid (∀ W, TS b W tb 0 (fun j => r (j + 1)) → b ≤ W.heap.size → Calls Tryd.prog 103 #[.iface 81 (.pointer (some ⟨tb, 0, none⟩))] W fun e w' => e = .returned (.tuple #[.agg (yC 32 Z), .int .i64 122]) ∧ TS b w' tb 0 (fun j => r (j + 1)) ∧ Chg W w' [tb]) := fun W t hb => by rw [← hZ]; exact ask_end t hb
    obtain ⟨fa, hfa⟩ : ∃ z, r 0 = z := ⟨_, rfl⟩
    rw [hfa] at HA
    clear h hb hn hSZ hZ h0 hfa
    go_enter Tryd.func70, Tryd.ntmps70
    go_upto_region 1 with (refine alloc_w rfl 86 rfl (.agg SZ) HZS.out SZ rfl ?_; intro rb w1 hrb BR k1)
    have HRB : Hid (w.heap.size ≤ rb ∧ b ≤ w1.heap.size) := ⟨hrb, Nat.le_trans HTL.out.2 k1.size⟩
    go_wp2_with fail
    refine (HA.out w1 (HT.out.chg k1) HRB.out.2).mono ?_
    rintro e w2 ⟨rfl, T2, k2⟩
    have BR2 := BR.chg k2 (by have := HTL.out; have := HRB.out; simp; omega)
    have C2 : Chg w w2 [tb] := (k1.wide (l := [tb])).trans1 k2
    clear k1 k2 BR hrb
    go_upto_region 4 with (first
      | (refine store_w BA rfl 69 _ _ (yC 32 fa) rfl rfl rfl (by rw [yC_size]; exact randInfo) (by rw [yC_size, yC_size]) (yC_one 32 _) ?_; intro w4 BA4 k4)
      | (with_reducible refine alloc_w rfl 69 rfl (.agg (yC 32 (fun _ => 0))) zeroRand (yC 32 (fun _ => 0)) rfl ?_; intro la w3 hla BA k3))
    have c4 : Chg w2 w4 [] := k3.new k4 hla
    have T4 := T2.chg c4
    have BR4 := BR2.chg c4 (by simp)
    have C4 : Chg w w4 [tb] := C2.trans c4 (by simp)
    have HB4 : Hid (b ≤ w4.heap.size) := by have := HTL.out; have := C4.size; show b ≤ _; omega
    clear k3 k4 c4 BA BA4 T2 BR2 C2 hla
    go_wp2_with fail
    refine (HA2.out w4 T4 HB4.out).mono ?_
    rintro e w5 ⟨rfl, T5, k5⟩
    have BR5 := BR4.chg k5 (by have := HTL.out; have := HRB.out; simp; omega)
    have C5 : Chg w w5 [tb] := C4.trans1 k5
    clear k5 T4 BR4 C4
    go_upto_region 6 with (first
      | (refine store_w BA rfl 69 _ _ (yC 32 Z) rfl rfl rfl (by rw [yC_size]; exact randInfo) (by rw [yC_size, yC_size]) (yC_one 32 _) ?_; intro w7 BA7 k7)
      | (with_reducible refine alloc_w rfl 69 rfl (.agg (yC 32 (fun _ => 0))) zeroRand (yC 32 (fun _ => 0)) rfl ?_; intro lb w6 hlb BA k6))
    have c7 : Chg w5 w7 [] := k6.new k7 hlb
    have T7 := T5.chg c7
    have BR7 := BR5.chg c7 (by simp)
    have C7 : Chg w w7 [tb] := C5.trans c7 (by simp)
    clear k6 k7 c7 BA BA7 T5 BR5 C5 hlb
    go_wp2_with (first
      | (refine store_w BR7 rfl 86 _ _ SZ rfl rfl rfl HZI.out rfl HZ1.out.2 ?_; intro w8 BR8 k8)
      | (refine wpList_build_c rfl 86 _ rfl SZ (by go_simp; exact HBS.out) ?_))
    exact bodyPost_ret (results_cell_tmp Tryd.results70 _ _ rb 86 SZ _ (.int .i64 122) rfl rfl BR8 Tryd.underlying86 rfl HZI.out) rfl ⟨rfl, fun s => (T7.far k8 (fun y hy => by have := HTL.out; have := HRB.out; simp at hy; omega)).cong (fun j hj => by omega), C7.new k8 HRB.out.1⟩
end Go.Proofs.YthpfdnkcepfbaaaDoor

/- rimeref11.Two; Scalars of a tape. -/
namespace Go.Proofs.YthpfdnkcepfbaaaDoor
open Go.RowKit N

set_option maxHeartbeats 4000000 in
set_option maxRecDepth 100000 in
theorem Two_r (a b : Nat → Nat) (ha : ∀ i, i < 32 → a i < 256) (hb : ∀ i, i < 32 → b i < 256) (w : World) :
    Calls Tryd.prog 33 #[.agg (yC 32 a), .agg (yC 32 b)] w fun e w' => e = .returned (fe (tw a b)) ∧ Chg w w' [] := by
  have HX : Hid (((nb (cat a 32 b) 0 64 % LN : Nat) : Int) = tw a b) := by show _ = _; unfold tw; rw [Int.natCast_emod, LN_eq]
  obtain ⟨X, hX⟩ : ∃ z, tw a b = z := ⟨_, rfl⟩
  obtain ⟨Y, hY⟩ : ∃ z, nb (cat a 32 b) 0 64 % LN = z := ⟨_, rfl⟩
  have HY : Hid (nb (cat a 32 b) 0 64 % LN = Y) := hY
  rw [hX, hY] at HX
  rw [hX]
  have HF : Hid ((∀ i, i < 32 → a i < 256) ∧ (∀ i, i < 32 → b i < 256)) := ⟨ha, hb⟩
  clear ha hb hX hY
  go_enter Tryd.func33, Tryd.ntmps33
  go_upto_region 2 with (first
    | (have _h := BB; with_reducible refine alloc_w rfl 86 rfl (.agg (feC 0)) zeroScQ (feC 0) rfl ?_; intro rb w3 hrb BR k3)
    | (have _h := BA; refine box_w rfl 69 _ rfl (yC 32 b) rfl ?_; intro gb w2 hgb BB k2)
    | (refine box_w rfl 69 _ rfl (yC 32 a) rfl ?_; intro ga w1 hga BA k1))
  have C3 := (k1.trans1 k2).trans1 k3
  have SA : Sl w3 (.slice (some ⟨ga, 0, none⟩) 32 32) 32 a := ((BA.chg k2 (by simp)).chg k3 (by simp)).slT HF.out.1 (by omega)
  have HSB : Hid (Blk w3 gb (yC 32 b) 69) := BB.chg k3 (by simp)
  have HN : Hid (w.heap.size ≤ rb ∧ rb < w3.heap.size) := ⟨Nat.le_trans (Nat.le_trans k1.size k2.size) hrb, BR.lt⟩
  have O0 : Own w3 w3.heap.size (.slice none 0 0) 0 (fun _ => 0) := Own.nil _ _ _
  clear k1 k2 k3 BA BB hga hgb hrb
  go_upto_region 3 with (refine append_y rfl (.tmp 6) (.tmp 7) rfl w3.heap.size (.slice none 0 0) (.slice (some ⟨ga, 0, none⟩) 32 32) 0 32 (fun _ => 0) a rfl rfl O0 SA (by omega) (Nat.le_refl _) ?_; intro a1 w4 O4 k4)
  rw [Nat.zero_add, cat_zero] at O4
  replace k4 : Chg w3 w4 [] := k4
  obtain ⟨pa, ca, hpa⟩ := Se.form (Or.inl O4.sl)
  subst hpa
  have SB := (HSB.out.chg k4 (by simp)).slT HF.out.2 (by omega)
  go_upto_region 4 with (refine append_y rfl (.tmp 9) (.tmp 10) rfl w3.heap.size (.slice pa 32 ca) (.slice (some ⟨gb, 0, none⟩) 32 32) 32 32 a b rfl rfl O4 SB (by omega) k4.size ?_; intro a2 w5 O5 k5)
  have HO4 : Hid (∀ x, x ∈ ob (.slice pa 32 ca) → w3.heap.size ≤ x) := fun x hx => (O4.ob_ge x hx).1
  have C5 : Chg w w5 [] := (C3.trans1 k4).trans k5 (fun x hx => Or.inr (by have := HO4.out x hx; have := C3.size; omega))
  have BR5 := (BR.chg k4 (by simp)).chg k5 (fun hx => by have := HO4.out _ hx; have := HN.out; omega)
  have SO := O5.sl
  clear O4 O5 k4 k5 SA SB BR C3
  go_wp2_with fail
  refine (Reduce_rs _ 64 (cat a 32 b) (by omega) w5 SO Y HY.out).mono ?_
  rintro e w6 ⟨rfl, k6⟩
  rw [HX.out]
  have BR6 := BR5.chg k6 (by simp)
  go_wp2_with (refine store_w BR6 rfl 86 _ _ (feC X) rfl rfl rfl feInfo rfl (feC_one _) ?_; intro w7 BR7 k7)
  exact bodyPost_ret (results_cell_row Tryd.results33 _ _ rb 86 (feC X) (0, 0) _ rfl BR7 Tryd.underlying86 rfl feInfo) rfl ⟨rfl, (C5.trans1 k6).new k7 HN.out.1⟩
/-- Rows of scalars out of pairs. -/
def scR (r : Nat → Nat → Nat) : Nat → List Value := fun j => feL (tw (r (2 * j)) (r (2 * j + 1)))
theorem feL_one (n : Int) : ∀ v ∈ feL n, v.oneCell' = true := by intro v hv; simp [feL] at hv; rcases hv with rfl | rfl | rfl | rfl | rfl | rfl | rfl | rfl | rfl | rfl | rfl | rfl | rfl | rfl | rfl | rfl | rfl | rfl | rfl | rfl | rfl | rfl | rfl | rfl | rfl | rfl | rfl | rfl | rfl | rfl | rfl | rfl <;> rfl
theorem zeroScZ : (Tryd.prog.info? 86).bind (·.zero) = some (.agg z32) := by kernel_rfl
theorem scRow : ∃ i, Tryd.prog.info? 86 = some i ∧ i.zero = some (.agg z32) ∧ i.size = 32 ∧ i.bytes = 32 := by
  have h : (Tryd.prog.info? 86).isSome = true := by kernel_rfl
  obtain ⟨i, hi⟩ := Option.isSome_iff_exists.1 h
  refine ⟨i, hi, ?_, ?_, ?_⟩
  · have q := zeroScZ; rw [hi] at q; simpa using q
  · have q := feInfo; rw [hi] at q; simpa using q
  · have q : (Tryd.prog.info? 86).map (·.bytes) = some 32 := by kernel_rfl
    rw [hi] at q; simpa using q
theorem fillSc (X : Int) : Instr.fill (fun i => some (i * 32, 32)) ((Array.range (1 * 32)).map ((Value.agg z32).cells[· % (Value.agg z32).cells.size]!)) [(0, .agg (feC X))] = some (feC X) := by kernel_rfl
theorem rl_sc {w : World} {g : Nat} {X : Int} (B : Blk w g (feC X) 86) : Rl w 32 (.slice (some ⟨g, 0, none⟩) 1 1) 1 (fun _ => feL X) := by
  refine ⟨fun _ _ => ⟨rfl, feL_one X⟩, Or.inr ⟨g, 0, 1, rfl, Nat.le_refl _, by omega, B.lt, fun i hi => ?_⟩⟩
  obtain rfl : i = 0 := by omega
  intro j u hu
  rw [Nat.zero_mul, Nat.add_zero, Nat.zero_add, B.cell]
  simpa using hu
set_option maxHeartbeats 4000000 in
set_option maxRecDepth 100000 in
theorem Scalars_no (tb : Nat) (z : Int) (hz : z < 0 ∨ 65536 < z) (w : World) :
    Calls Tryd.prog 32 #[.iface 81 (.pointer (some ⟨tb, 0, none⟩)), .int .i64 z] w fun e w' => e = .returned (.tuple #[.slice none 0 0, .int .i64 1]) ∧ w' = w := by
  rcases hz with hz | hz
  · go_enter Tryd.func32, Tryd.ntmps32
    go_wp2_with fail
    go_ret2
    exact ⟨rfl, rfl⟩
  · have h0 : ¬ z < 0 := by omega
    go_enter Tryd.func32, Tryd.ntmps32
    go_wp2_with fail
    go_ret2
    exact ⟨rfl, rfl⟩
/-- What Scalars answers. -/
def ScQ (b : Nat) (w w' : World) (tb n : Nat) (r : Nat → Nat → Nat) (M : Nat) (e : Ending) : Prop :=
  (2 * M ≤ n ∧ ∃ v, e = .returned (.tuple #[v, .int .i64 0]) ∧ OwnR w' w.heap.size 86 32 v M (scR r) ∧ TS b w' tb (n - 2 * M) (fun j => r (j + 2 * M)) ∧ Chg w w' [tb]) ∨
  (n < 2 * M ∧ ∃ v, e = .returned (.tuple #[v, .int .i64 122]) ∧ OwnR w' w.heap.size 86 32 v (n / 2) (scR r) ∧ (∀ s, TS b w' tb 0 s) ∧ Chg w w' [tb])
theorem OwnR.lenR {w : World} {base : Nat} {T : TypeId} {s : Nat} {v : Value} {n : Nat} {F : Nat → List Value} (h : OwnR w base T s v n F) : ∃ p c, v = .slice p n c := by
  obtain ⟨p, c, e, _⟩ := h.rl.form
  exact ⟨p, c, e⟩
set_option maxHeartbeats 8000000 in
set_option maxRecDepth 100000 in
theorem Scalars_s {b : Nat} {w : World} {tb n : Nat} {r : Nat → Nat → Nat} (h : TS b w tb n r) (hb : b ≤ w.heap.size) (hr : ∀ j, j < n → ∀ i, i < 32 → r j i < 256) (M : Nat) (hM : M ≤ 65536) :
    Calls Tryd.prog 32 #[.iface 81 (.pointer (some ⟨tb, 0, none⟩)), .int .i64 (M : Int)] w fun e w' => ScQ b w w' tb n r M e := by
  have HB : Hid (b ≤ w.heap.size ∧ M ≤ 65536 ∧ tb < b) := ⟨hb, hM, h.1⟩
  have HR : Hid (∀ j, j < n → ∀ i, i < 32 → r j i < 256) := hr
  have h0 : ¬ (M : Int) < 0 := by omega
  have h1 : ¬ (65536 : Int) < (M : Int) := by omega
  obtain ⟨ic, hic, hicz, hics, hicb⟩ := scRow
  have HT : Hid (TS b w tb n r) := h
  clear h hb hr hM
  go_enter Tryd.func32, Tryd.ntmps32
  go_wp2_with fail
  go_loopw [20, 6] (fun t tu wr => ∃ q : Nat, q ≤ M ∧ 2 * q ≤ n ∧ t = .int .i64 (q : Int) ∧ OwnR wr w.heap.size 86 32 tu q (scR r) ∧ TS b wr tb (n - 2 * q) (fun j => r (j + 2 * q)) ∧ Chg w wr [tb]) (fun t _ _ => ((M : Int) - intOf t).toNat)
  case atStart => exact ⟨0, by omega, by omega, rfl, OwnR.nil _ _ _ _ _, HT.out, Chg.refl _ _⟩
  case round =>
    obtain ⟨q, hq, hq2, rfl, OU, T, C⟩ := hrel
    obtain ⟨pu, cu, rfl⟩ := OU.lenR
    have HBW : Hid (b ≤ wr.heap.size) := Nat.le_trans HB.out.1 C.size
    by_cases h8 : q < M
    · have hI : (q : Int) < (M : Int) := by omega
      have e1 : IntKind.i64.wrap ((q : Int) + 1) = (q : Int) + 1 := by have := HB.out; rw [IntKind.wrap_i64]; omega
      by_cases hn : 2 * q + 2 ≤ n
      · obtain ⟨m, hm⟩ : ∃ m, n - 2 * q = m + 2 := ⟨n - 2 * q - 2, by omega⟩
        rw [hm] at T
        have HQ : Hid (q < M ∧ 2 * (q + 1) ≤ n ∧ n - 2 * (q + 1) = m) := ⟨h8, by omega, by omega⟩
        have hrr : ∀ j, j < m + 2 → ∀ i, i < 32 → r (j + 2 * q) i < 256 := fun j hj => HR.out _ (by omega)
        have HNX := nextScalar_ok T HBW.out hrr
        have HXR : Hid (feL (tw (r (0 + 2 * q)) (r (1 + 2 * q))) = scR r q) := by show _ = scR r q; unfold scR; rw [Nat.zero_add, Nat.add_comm 1]
        obtain ⟨X, hX⟩ : ∃ z, tw (r (0 + 2 * q)) (r (1 + 2 * q)) = z := ⟨_, rfl⟩
        rw [hX] at HNX HXR
        have HRL : Hid (∀ W g, Blk W g (feC X) 86 → Rl W 32 (.slice (some ⟨g, 0, none⟩) 1 1) 1 (fun _ => feL X)) := fun W g B => rl_sc B
        have HFL := fillSc X
        have HCX : Hid ((feC X).size = 32 ∧ (feC X).all (·.oneCell') = true) := ⟨rfl, feC_one X⟩
        have HNX2 : Calls Tryd.prog 70 #[.iface 81 (.pointer (some ⟨tb, 0, none⟩))] wr fun e w' => e = .returned (.tuple #[.agg (feC X), .int .i64 0]) ∧ TS b w' tb m (fun j => r (j + 2 + 2 * q)) ∧ Chg wr w' [tb] := HNX
        obtain ⟨CX, hCX⟩ : ∃ z, feC X = z := ⟨_, rfl⟩
        obtain ⟨FX, hFX⟩ : ∃ z : Nat → List Value, (fun _ => feL X) = z := ⟨_, rfl⟩
        have HFX : Hid (∀ j, FX j = scR r q) := fun j => by rw [← hFX]; exact HXR.out
        rw [hCX, hFX] at HRL
        rw [hCX] at HFL HCX HNX2
        have HFI : Hid (Instr.fill (fun i => some (i * 32, 32)) ((Array.range (1 * 32)).map ((Value.agg z32).cells[· % (Value.agg z32).cells.size]!)) [(0, .agg CX)] = some CX) := HFL
        have HSI : Hid ((Tryd.prog.info? 86).map (·.size) = some CX.size) := by show _ = _; rw [HCX.out.1]; exact feInfo
        have HNH : Hid (Calls Tryd.prog 70 #[.iface 81 (.pointer (some ⟨tb, 0, none⟩))] wr fun e w' => e = .returned (.tuple #[.agg CX, .int .i64 0]) ∧ TS b w' tb m (fun j => r (j + 2 + 2 * q)) ∧ Chg wr w' [tb]) := HNX2
        have HBY : Hid ((q + 1) * 32 ≤ 140737488355328 ∧ q + 1 ≤ 9223372036854775807) := by have := HB.out; exact ⟨by omega, by omega⟩
        clear HNX2 HFL hCX hFX
        have HO : Hid (OwnR wr w.heap.size 86 32 (.slice pu q cu) q (scR r)) := OU
        have HOF : Hid (∀ x, x ∈ ob (.slice pu q cu) → w.heap.size ≤ x ∧ x < wr.heap.size) := fun x hx => OU.1.lt x (by unfold ob at hx; simpa using hx)
        have HC : Hid (Chg w wr [tb]) := C
        clear hq hq2 hm h8 hn T HNX hrr hX OU C HXR
        go_wp2_with fail
        refine HNH.out.mono ?_
        rintro e w2 ⟨rfl, T2, k2⟩
        have O2 := HO.out.chg k2 (fun x hx hy => by have := HOF.out x hx; have := HB.out; simp at hy; omega)
        have C2 := HC.out.trans1 k2
        have HS2 : Hid (wr.heap.size ≤ w2.heap.size) := k2.size
        clear k2
        go_upto_region 9 with (first
          | (refine store_w BX rfl 86 _ _ CX rfl rfl rfl HSI.out HCX.out.1.symm HCX.out.2 ?_; intro w4 BX4 k4)
          | (with_reducible refine alloc_w rfl 86 rfl (.agg (feC 0)) zeroScQ (feC 0) rfl ?_; intro xb w3 hxb BX k3))
        have c4 : Chg w2 w4 [] := k3.new k4 hxb
        have T4 := T2.chg c4
        have O4 := O2.chg c4 (by simp)
        have C4 : Chg w w4 [tb] := C2.trans c4 (by simp)
        clear k3 k4 c4 BX T2 O2 C2 hxb
        have HC4 : Hid (w.heap.size ≤ w4.heap.size) := C4.size
        go_wp2_with (first
          | (with_reducible refine wpList_append_r ?_ (.tmp 31) (.tmp 33) 83 ?_ 86 ic (.agg z32) 32 32 Tryd.underlying83 hic hicz hics hicb ?_ ?_ w.heap.size (.slice pu q cu) (.slice (some ⟨sb, 0, none⟩) 1 1) q 1 (scR r) FX ?_ ?_ O5 RS ?_ HBY.out.1 HBY.out.2 HC5.out ?_
             · rfl
             · rfl
             · rfl
             · decide
             · rfl
             · rfl
             · decide
             intro ng nc w6 O6 k6 _ _)
          | (with_reducible refine bslice_w ?_ 83 86 (.tmp 32) ?_ (.agg CX) ?_ CX ic (.agg z32) Tryd.underlying83 hic hicz 32 hics ?_ ?_ HFI.out ?_
             · rfl
             · rfl
             · rfl
             · decide
             · decide
             intro sb w5 hsb BS k5; have O5 := O4.chg k5 (by simp); have RS := HRL.out _ _ BS; have HC5 : Hid (w.heap.size ≤ w5.heap.size) := Nat.le_trans HC4.out k5.size)
          | (with_reducible refine load_b BX4 86 (.tmp 7) Tryd.underlying86 ?_ ?_ ?_ ?_ ?_ ?_
             · rfl
             · rfl
             · rfl
             · rfl
             · exact HSI.out))
        have O7 : OwnR w6 w.heap.size 86 32 (.slice (some ⟨ng, 0, none⟩) (q + 1) nc) (q + 1) (scR r) := by
          refine ⟨?_, fun i hi => ⟨rfl, feL_one _⟩⟩
          have e : rL 32 (q + 1) (scR r) = rL 32 (q + 1) (catR (scR r) q FX) := rL_congr fun j hj => by
            unfold catR
            by_cases hjq : j < q
            · rw [if_pos hjq]
            · rw [if_neg hjq, HFX.out, show j = q by omega]
          rw [e]
          exact O6.1
        have C6 : Chg w w6 [tb] := (C4.trans k5 (by simp)).trans k6 (fun x hx => Or.inr (HOF.out x hx).1)
        have T6 : TS b w6 tb (n - 2 * (q + 1)) (fun j => r (j + 2 * (q + 1))) := by
          rw [HQ.out.2.2]
          refine ((T4.chg k5).far k6 (fun x hx => by have := HOF.out x hx; have := HB.out; omega)).cong (fun j hj => ?_)
          show r (j + 2 + 2 * q) = r (j + 2 * (q + 1))
          rw [show j + 2 + 2 * q = j + 2 * (q + 1) by omega]
        exact ⟨⟨q + 1, by have := HQ.out; omega, HQ.out.2.1, by go_num, O7, T6, C6⟩, by have := HQ.out; simp [intOf]; omega⟩
      · have HQ : Hid (n < 2 * M ∧ n / 2 = q ∧ n - 2 * q < 2) := ⟨by omega, by omega, by omega⟩
        have HNX : Hid (Calls Tryd.prog 70 #[.iface 81 (.pointer (some ⟨tb, 0, none⟩))] wr fun e w' => e = .returned (.tuple #[fe 0, .int .i64 122]) ∧ (∀ s, TS b w' tb 0 s) ∧ Chg wr w' [tb]) := nextScalar_end T HQ.out.2.2 HBW.out
        have HO : Hid (OwnR wr w.heap.size 86 32 (.slice pu q cu) q (scR r)) := OU
        have HOF : Hid (∀ x, x ∈ ob (.slice pu q cu) → w.heap.size ≤ x ∧ x < wr.heap.size) := fun x hx => OU.1.lt x (by unfold ob at hx; simpa using hx)
        have HC : Hid (Chg w wr [tb]) := C
        obtain ⟨X, hX⟩ : ∃ z : Array Value, feC 0 = z := ⟨_, rfl⟩
        have HCX : Hid (X.size = 32 ∧ X.all (·.oneCell') = true) := by rw [← hX]; exact ⟨rfl, feC_one 0⟩
        have HSI : Hid ((Tryd.prog.info? 86).map (·.size) = some X.size) := by show _ = _; rw [HCX.out.1]; exact feInfo
        have HNX2 : Hid (Calls Tryd.prog 70 #[.iface 81 (.pointer (some ⟨tb, 0, none⟩))] wr fun e w' => e = .returned (.tuple #[.agg X, .int .i64 122]) ∧ (∀ s, TS b w' tb 0 s) ∧ Chg wr w' [tb]) := by rw [← hX]; exact HNX.out
        clear hq hq2 h8 hn T OU C HNX hX
        go_wp2_with fail
        refine HNX2.out.mono ?_
        rintro e w2 ⟨rfl, T2, k2⟩
        have O2 := HO.out.chg k2 (fun x hx hy => by have := HOF.out x hx; have := HB.out; simp at hy; omega)
        have C2 := HC.out.trans1 k2
        clear k2
        go_wp2_with (first
          | (refine store_w BX rfl 86 _ _ X rfl rfl rfl HSI.out HCX.out.1.symm HCX.out.2 ?_; intro w4 BX4 k4)
          | (with_reducible refine alloc_w rfl 86 rfl (.agg (feC 0)) zeroScQ (feC 0) rfl ?_; intro xb w3 hxb BX k3))
        have c4 : Chg w2 w4 [] := k3.new k4 hxb
        have O4 := O2.chg c4 (by simp)
        go_ret2
        exact Or.inr ⟨HQ.out.1, _, rfl, by rw [HQ.out.2.1]; exact O4, fun s => (T2 s).chg c4, C2.trans c4 (by simp)⟩
    · have hI : ¬ (q : Int) < (M : Int) := by omega
      obtain rfl : q = M := by omega
      clear hq h8
      go_wp2_with fail
      go_ret2
      exact Or.inl ⟨hq2, _, rfl, OU, T, C⟩
end Go.Proofs.YthpfdnkcepfbaaaDoor
