/- Sha512Chain, walked. -/
import Derived.Test.YtjcgjhncdaplcaaDoorH11
import Derived.Test.YtjcgjhncdaplcaaDoorH12
set_option linter.unusedVariables false
set_option linter.unusedSimpArgs false
set_option linter.unnecessarySimpa false
namespace Go.Proofs.YtjcgjhncdaplcaaDoor
open Go.RowKit

theorem num_s (e : Int) (w : World) (h0 : 0 ≤ e) (h1 : e < 1000) : Calls Tryd.prog 22 #[.int .i64 e] w fun x w' => x = .returned (.int .i64 e) ∧ w' = w := by
  have e1 : IntKind.i64.wrap e = e := by rw [IntKind.wrap_i64]; omega
  go_enter Tryd.func22, Tryd.ntmps22
  go_wp2
  go_ret
  exact ⟨rfl, rfl⟩
theorem mC_field (s : Nat → Nat) (v : Value) (n : Nat) : (mC s v n).extract 0 8 = vC 8 s := by
  unfold mC
  rw [Array.extract_append]
  simp [vC_size]
theorem field_words (s : Nat → Nat) (a : Option Addr) (k c n : Nat) (W : World) : (Instr.field 73 (.agg (mC s (.slice a k c) n)) 0).run Tryd.prog W = .ok (.agg (vC 8 s)) W := by kernel_rfl
theorem pad_len (n : Nat) : (n + (17 + zr n)) % 128 = 0 := by unfold zr; omega
set_option maxHeartbeats 4000000 in
set_option maxRecDepth 100000 in
theorem chain_w (v : Value) (n : Nat) (f : Nat → Nat) (w : World) (hG : Gl w) (hv : Sl w v n f) (hn : n ≤ 140737488355328) :
    Calls Tryd.prog 8 #[v] w fun e w' => e = .returned (.bool true) ∧ Chg w w' [] := by
  have hlen : ∃ p c, v = .slice p n c := by
    rcases hv with ⟨rfl, rfl⟩ | ⟨g, o, cap, rfl, _⟩
    · exact ⟨none, 0, rfl⟩
    · exact ⟨_, _, rfl⟩
  obtain ⟨vp, vc, rfl⟩ := hlen
  have hl := hG.lt
  go_enter Tryd.func8, Tryd.ntmps8
  go_wp2_with fail
  refine (alive_s _ hG).mono ?_
  rintro e v1 ⟨rfl, K0⟩
  go_wp2_with fail
  refine (New_s _ (hG.chg K0 (by simp) (by simp))).mono ?_
  rintro e v2 ⟨h, rfl, k2, hh, B2⟩
  have hx := K0.size
  replace K0 := K0.trans1 k2
  clear k2
  go_wp2_with fail
  refine (State_s h 0 IV (fun _ => 0) _ (by unfold U; omega) (fun _ _ => Nat.zero_lt_succ _) B2).mono ?_
  rintro e v3 ⟨z, rfl, _, k3, _⟩
  replace K0 := K0.trans1 k3
  clear k3 B2
  have hfw := field_words IV (some ⟨z, 0, none⟩) 0 0 0
  have A0 := Blk.new v3 z8 53
  have y3 : w.heap.size ≤ v3.heap.size := K0.size
  have K1 := (K0.alloc (.cells z8 53)).setRowNew y3 (vC 8 IV)
  have A1 := A0.setRow (vC 8 IV)
  have e3 : IntKind.u64.wrap (n : Int) = (n : Int) := by rw [IntKind.wrap_u64]; omega
  go_wp2_with (refine wpList_store_row rfl 53 _ _ rfl v3.heap.size _ rfl rfl 53 _ A0 (by rw [vC_size]; exact S8Info) (by rw [vC_size]; rfl) (vC_one _ _) ?_)
  change Calls _ _ _ ((v3.alloc (.cells z8 53)).setRow v3.heap.size (vC 8 IV)) _
  generalize (v3.alloc (.cells z8 53)).setRow v3.heap.size (vC 8 IV) = v4 at *
  generalize v3.heap.size = a at *
  clear hfw A0 K0
  refine (Pad_s n v4 (by omega)).mono ?_
  rintro e v5 ⟨pv, rfl, OP, k5⟩
  have a4 := A1.lt
  replace A1 := A1.chg k5 (by simp)
  have y4 := K1.size
  replace K1 := K1.trans1 k5
  clear k5
  go_wp2_with fail
  refine (num_s 0 _ (by omega) (by omega)).mono ?_
  rintro e v6 ⟨rfl, rfl⟩
  have hz : zr n < 128 := Nat.mod_lt _ (by decide)
  obtain ⟨m, hm⟩ : ∃ m, 17 + zr n = m := ⟨_, rfl⟩
  obtain ⟨L, hL⟩ : ∃ L, n + m = L := ⟨_, rfl⟩
  have hpl := pad_len n
  rw [hm] at OP hpl
  have HS : Hid (sha f n = dig (run KK IV (cat f n (pdf n)) (L / 128))) := by show sha f n = _; unfold sha; rw [hm, hL]
  have hL0 : 0 < L := by omega
  have hLm : L % 128 = 0 := by omega
  have hLb : L ≤ 140737488355672 := by omega
  have e7 : (L : Int).tmod 128 = 0 := by rw [Int.tmod_eq_emod_of_nonneg (by omega)]; omega
  have HL : Hid (n + m = L) := hL
  have hnm : n + m ≤ 211106232532992 := by omega
  have HNM : Hid (n + m ≤ 211106232532992) := hnm
  have HN : Hid (n ≤ 140737488355328) := hn
  have HLm : Hid (L % 128 = 0) := hLm
  clear hm hL hpl hz hnm hLm hn
  obtain ⟨u, hu⟩ : ∃ u, cat f n (pdf n) = u := ⟨_, rfl⟩
  have HU : Hid (cat f n (pdf n) = u) := hu
  rw [hu] at HS
  clear hu
  have y6 := K1.size
  have alt6 := A1.lt
  go_wp2_with (first
    | (refine append_y rfl (.tmp 31) (.tmp 32) rfl v6.heap.size (.slice none 0 0) (.slice vp n vc) 0 n f f rfl rfl (Own.nil _ _ f) (hv.chg K1 (Off.nil _)) (by have := HN.out; omega) (Nat.le_refl _) ?_; intro a1 w1 O1 q1; rw [Nat.zero_add, cat_zero] at O1; replace q1 : Chg v6 w1 [] := q1)
    | (refine append_y rfl (.tmp 34) (.tmp 35) rfl v6.heap.size a1 pv n m f (pdf n) rfl rfl O1 (OP.sl.chg q1 (Off.nil _)) HNM.out q1.size ?_; intro a2 w2 O2 q2; rw [HL.out, HU.out] at O2; obtain ⟨ga, ca, rfl, hga, hca, hcb, BA⟩ := O2.form hL0; replace q2 := q1.trans q2 (fun i hi => Or.inr (O1.ob_ge i hi).1); clear O2 O1 q1))
  replace A1 := A1.chg q2 (by simp)
  have y7 := q2.size
  have aga : a < ga := by omega
  replace K1 := K1.trans1 q2
  have hG2 := hG.chg K1 (by simp) (by simp)
  clear q2 OP
  go_loopw [8] (fun t wr => ∃ k : Nat, 128 * k ≤ L ∧ t = .int .i64 ((128 * k : Nat) : Int) ∧ Blk wr a (vC 8 (run KK IV u k)) 53 ∧ Chg w2 wr [a]) (fun t _ => ((L : Int) - intOf t).toNat)
  case atStart => exact ⟨0, by omega, rfl, A1, Chg.refl _ _⟩
  case round =>
    clear A1
    obtain ⟨k, hk, rfl, b0, c0⟩ := hrel
    have hrn : run KK IV u (k + 1) = cmp KK (run KK IV u k) fun j => u (128 * k + j) := rfl
    have HRN : Hid (run KK IV u (k + 1) = cmp KK (run KK IV u k) fun j => u (128 * k + j)) := hrn
    clear hrn
    have us := run_lt (k := KK) (u := u) IV_lt k
    by_cases h8 : 128 * k < L
    · have h9 : 128 * k + 128 ≤ L := by have := HLm.out; omega
      obtain ⟨i, hi⟩ : ∃ i, 128 * k = i := ⟨_, rfl⟩
      have HI : Hid (128 * k = i) := hi
      have hI : (i : Int) < (L : Int) := by omega
      have hI2 : (i : Int) + 128 ≤ (L : Int) := by omega
      have hI3 : (L : Int) ≤ (ca : Int) := by omega
      have hI5 : (i : Int) + 128 ≤ (ca : Int) := by omega
      have e8 : IntKind.i64.wrap ((i : Int) + 128) = (i : Int) + 128 := by rw [IntKind.wrap_i64]; omega
      have hn8 : ((i : Int) + 128).toNat = i + 128 := by omega
      have BK := (BA.chg c0 (by simp; omega)).sub (128 * k) 128 h9
      have wlt := b0.lt
      have hI6 : (0 : Int) ≤ (i : Int) + 128 := by omega
      have hci : ¬ ca = i := by omega
      rw [hi] at BK HRN ⊢
      rw [Nat.zero_add] at BK
      have hcai : 128 ≤ ca - i := by omega
      have hcai2 : ca - i ≤ 9223372036854775807 := by omega
      clear hi h8 h9
      go_wp2_with fail
      refine wp_region_held_drew (S := fun w' => Chg wr w' []) (by kernel_rfl) ((Chg.refl wr _).drew) (fun hHeld => ?_)
      refine take_load 0 (some 48) (vC 8 (run KK IV u k)) rfl (by kernel_rfl) (by kernel_rfl) (by kernel_rfl) (fun _ _ _ h => h) rfl rfl 53 _ rfl a rfl 53 _ (fun w hSw => b0.chg hSw (by simp)) Tryd.underlying53 rfl (by first | exact feInfo | kernel_rfl) hHeld ?_
      try simp only [Act.put, List.setIfInBounds_toArray, List.set_cons_zero, List.set_cons_succ]
      refine take_val (v := ?_) 1 (some 49) rfl (by kernel_rfl) (by kernel_rfl) (by kernel_rfl) (fun _ _ _ h => h) rfl rfl (fun w hSw => ?_) hHeld ?_
      rotate_left
      · (go_simp; try with_reducible rfl)
      try simp only [Act.put, List.setIfInBounds_toArray, List.set_cons_zero, List.set_cons_succ]
      refine take_val (v := ?_) 2 (some 50) rfl (by kernel_rfl) (by kernel_rfl) (by kernel_rfl) (fun _ _ _ h => h) rfl rfl (fun w hSw => ?_) hHeld ?_
      rotate_left
      · (go_simp; try with_reducible rfl)
      try simp only [Act.put, List.setIfInBounds_toArray, List.set_cons_zero, List.set_cons_succ]
      refine take_val (v := ?_) 3 (some 51) rfl (by kernel_rfl) (by kernel_rfl) (by kernel_rfl) (fun _ _ _ h => h) rfl rfl (fun w hSw => ?_) hHeld ?_
      rotate_left
      · (go_simp; try with_reducible rfl)
      try simp only [Act.put, List.setIfInBounds_toArray, List.set_cons_zero, List.set_cons_succ]
      refine take_val (v := ?_) 4 (some 52) rfl (by kernel_rfl) (by kernel_rfl) (by kernel_rfl) (fun _ _ _ h => h) rfl rfl (fun w hSw => ?_) hHeld ?_
      rotate_left
      · (go_simp; try with_reducible rfl)
      try simp only [Act.put, List.setIfInBounds_toArray, List.set_cons_zero, List.set_cons_succ]
      refine take_val (v := (.slice (some ⟨ga, i, none⟩) 128 (ca - i))) 5 (some 53) rfl (by kernel_rfl) (by kernel_rfl) (by kernel_rfl) (fun _ _ _ h => h) rfl rfl (fun w hSw => ?_) hHeld ?_
      · (go_simp; try omega)
      try simp only [Act.put, List.setIfInBounds_toArray, List.set_cons_zero, List.set_cons_succ]
      refine wpAnyH_ready (rs := [6, 10]) (by kernel_rfl) (by simp) ?_
      refine AllReadyH.cons (o := _) rfl (fun K hK => ?_) ?_
      ·
        go_simp
        refine (Compress_s ga i (ca - i) _ (fun j => u (i + j)) _ ((hG2.chg c0 (by simp; omega) (by simp; omega)).chg hHeld (by simp) (by simp)) us hcai hcai2 (BK.chg hHeld (by simp))).mono ?_
        rintro e v7 ⟨rfl, k7⟩
        rw [← HRN.out]
        have hsz7 : wr.heap.size ≤ v7.heap.size := (hHeld.trans1 k7).size
        go_wp2_with fail
        refine hK.out _ _ (hHeld.trans1 k7) (fun hHeld => ?_)
        clear hK K
        try simp only [Act.put, List.setIfInBounds_toArray, List.set_cons_zero, List.set_cons_succ]
        clear k7
        refine take_val (v := ?_) 7 (some 47) rfl (by kernel_rfl) (by kernel_rfl) (by kernel_rfl) (fun _ _ _ h => h) rfl rfl (fun w hSw => ?_) hHeld ?_
        rotate_left
        · (go_simp; try with_reducible rfl)
        try simp only [Act.put, List.setIfInBounds_toArray, List.set_cons_zero, List.set_cons_succ]
        refine take_val (v := ?_) 8 (some 55) rfl (by kernel_rfl) (by kernel_rfl) (by kernel_rfl) (fun _ _ _ h => h) rfl rfl (fun w hSw => ?_) hHeld ?_
        rotate_left
        · (go_simp; try with_reducible rfl)
        try simp only [Act.put, List.setIfInBounds_toArray, List.set_cons_zero, List.set_cons_succ]
        refine take_val (v := ?_) 9 (some 56) rfl (by kernel_rfl) (by kernel_rfl) (by kernel_rfl) (fun _ _ _ h => h) rfl rfl (fun w hSw => ?_) hHeld ?_
        rotate_left
        · (go_simp; try with_reducible rfl)
        try simp only [Act.put, List.setIfInBounds_toArray, List.set_cons_zero, List.set_cons_succ]
        refine wpAnyH_ready (rs := [10]) (by kernel_rfl) (by simp) ?_
        refine AllReadyH.cons (o := _) rfl (fun K hK => ?_) ?_
        ·
          rw [if_pos (by rfl)]
          go_simp
          refine hK.out _ _ (hHeld.alloc _) (fun hHeld => ?_)
          clear hK K
          try simp only [Act.put, List.setIfInBounds_toArray, List.set_cons_zero, List.set_cons_succ]
          have NB := Blk.new v7 z8 53
          have nbl : wr.heap.size ≤ v7.heap.size := hsz7
          have nba : a < v7.heap.size := by omega
          clear hsz7
          generalize hnb : v7.heap.size = nb at *
          clear hnb
          refine wpAnyH_ready (rs := [11]) (by kernel_rfl) (by simp) ?_
          refine AllReadyH.cons (o := _) rfl (fun K hK => ?_) ?_
          ·
            rw [if_pos (by rfl)]
            refine wp_store_row 53 _ _ rfl nb _ rfl rfl 53 _ NB (by rw [vC_size]; exact S8Info) (by rw [vC_size]; rfl) (vC_one _ _) ?_
            refine hK.out _ _ (hHeld.setRowNew nbl _) (fun hHeld => ?_)
            clear hK K
            try simp only [Act.put, List.setIfInBounds_toArray, List.set_cons_zero, List.set_cons_succ]
            refine take_val (v := ?_) 12 (some 10) rfl (by kernel_rfl) (by kernel_rfl) (by kernel_rfl) (fun _ _ _ h => h) rfl rfl (fun w hSw => ?_) hHeld ?_
            rotate_left
            · (go_simp; try with_reducible rfl)
            try simp only [Act.put, List.setIfInBounds_toArray, List.set_cons_zero, List.set_cons_succ]
            refine wpAnyH_done (by kernel_rfl) ?_ _
            have A2 := b0.chg hHeld (by simp)
            have c1 := c0.trans1 hHeld.wide
            replace NB := NB.setRow (vC 8 (run KK IV u (k + 1)))
            clear hHeld
            go_wp2_with fail
            refine (num_s 0 _ (by omega) (by omega)).mono ?_
            rintro e v8 ⟨rfl, rfl⟩
            go_wp2_with (first | (refine wpList_load_row rfl 53 _ rfl nb rfl 53 _ (0, 0) _ NB Tryd.underlying53 rfl (by rw [vC_size]; exact S8Info) ?_) | (refine wpList_store_row rfl 53 _ _ rfl a _ rfl rfl 53 _ A2 (by rw [vC_size]; exact S8Info) (by rw [vC_size, vC_size]) (vC_one _ _) ?_))
            have hi2 := HI.out
            exact ⟨⟨k + 1, by omega, by congr 1; omega, A2.setRow _, c1.trans1 ⟨rfl, rfl, rfl, by simp, fun k hk hl => setRow_other _ _ _ _ (by simpa using hl)⟩⟩, by simp [intOf]; omega⟩
          exact AllReadyH.nil
        exact AllReadyH.nil
      refine AllReadyH.cons (o := _) rfl (fun K hK => ?_) ?_
      ·
        rw [if_pos (by rfl)]
        go_simp
        refine hK.out _ _ (hHeld.alloc _) (fun hHeld => ?_)
        clear hK K
        try simp only [Act.put, List.setIfInBounds_toArray, List.set_cons_zero, List.set_cons_succ]
        have NB : Blk (wr.drew.alloc (.cells z8 53)) wr.heap.size z8 53 := Blk.new wr.drew z8 53
        have nba : a < wr.heap.size := wlt
        obtain ⟨nb, hnb⟩ : ∃ nb, wr.heap.size = nb := ⟨_, rfl⟩
        have nbl : wr.heap.size ≤ nb := Nat.le_of_eq hnb
        rw [hnb] at NB nba
        rw [hnb]
        clear hnb
        refine wpAnyH_ready (rs := [6]) (by kernel_rfl) (by simp) ?_
        refine AllReadyH.cons (o := _) rfl (fun K hK => ?_) ?_
        ·
          go_simp
          refine (Compress_s ga i (ca - i) _ (fun j => u (i + j)) _ ((hG2.chg c0 (by simp; omega) (by simp; omega)).chg hHeld (by simp) (by simp)) us hcai hcai2 (BK.chg hHeld (by simp))).mono ?_
          rintro e v7 ⟨rfl, k7⟩
          rw [← HRN.out]
          have hsz7 : wr.heap.size ≤ v7.heap.size := (hHeld.trans1 k7).size
          go_wp2_with fail
          refine hK.out _ _ (hHeld.trans1 k7) (fun hHeld => ?_)
          clear hK K
          try simp only [Act.put, List.setIfInBounds_toArray, List.set_cons_zero, List.set_cons_succ]
          replace NB := NB.chg k7 (by simp)
          clear k7
          refine take_val (v := ?_) 7 (some 47) rfl (by kernel_rfl) (by kernel_rfl) (by kernel_rfl) (fun _ _ _ h => h) rfl rfl (fun w hSw => ?_) hHeld ?_
          rotate_left
          · (go_simp; try with_reducible rfl)
          try simp only [Act.put, List.setIfInBounds_toArray, List.set_cons_zero, List.set_cons_succ]
          refine take_val (v := ?_) 8 (some 55) rfl (by kernel_rfl) (by kernel_rfl) (by kernel_rfl) (fun _ _ _ h => h) rfl rfl (fun w hSw => ?_) hHeld ?_
          rotate_left
          · (go_simp; try with_reducible rfl)
          try simp only [Act.put, List.setIfInBounds_toArray, List.set_cons_zero, List.set_cons_succ]
          refine take_val (v := ?_) 9 (some 56) rfl (by kernel_rfl) (by kernel_rfl) (by kernel_rfl) (fun _ _ _ h => h) rfl rfl (fun w hSw => ?_) hHeld ?_
          rotate_left
          · (go_simp; try with_reducible rfl)
          try simp only [Act.put, List.setIfInBounds_toArray, List.set_cons_zero, List.set_cons_succ]
          refine wpAnyH_ready (rs := [11]) (by kernel_rfl) (by simp) ?_
          refine AllReadyH.cons (o := _) rfl (fun K hK => ?_) ?_
          ·
            rw [if_pos (by rfl)]
            refine wp_store_row 53 _ _ rfl nb _ rfl rfl 53 _ NB (by rw [vC_size]; exact S8Info) (by rw [vC_size]; rfl) (vC_one _ _) ?_
            refine hK.out _ _ (hHeld.setRowNew nbl _) (fun hHeld => ?_)
            clear hK K
            try simp only [Act.put, List.setIfInBounds_toArray, List.set_cons_zero, List.set_cons_succ]
            refine take_val (v := ?_) 12 (some 10) rfl (by kernel_rfl) (by kernel_rfl) (by kernel_rfl) (fun _ _ _ h => h) rfl rfl (fun w hSw => ?_) hHeld ?_
            rotate_left
            · (go_simp; try with_reducible rfl)
            try simp only [Act.put, List.setIfInBounds_toArray, List.set_cons_zero, List.set_cons_succ]
            refine wpAnyH_done (by kernel_rfl) ?_ _
            have A2 := b0.chg hHeld (by simp)
            have c1 := c0.trans1 hHeld.wide
            replace NB := NB.setRow (vC 8 (run KK IV u (k + 1)))
            clear hHeld
            go_wp2_with fail
            refine (num_s 0 _ (by omega) (by omega)).mono ?_
            rintro e v8 ⟨rfl, rfl⟩
            go_wp2_with (first | (refine wpList_load_row rfl 53 _ rfl nb rfl 53 _ (0, 0) _ NB Tryd.underlying53 rfl (by rw [vC_size]; exact S8Info) ?_) | (refine wpList_store_row rfl 53 _ _ rfl a _ rfl rfl 53 _ A2 (by rw [vC_size]; exact S8Info) (by rw [vC_size, vC_size]) (vC_one _ _) ?_))
            have hi2 := HI.out
            exact ⟨⟨k + 1, by omega, by congr 1; omega, A2.setRow _, c1.trans1 ⟨rfl, rfl, rfl, by simp, fun k hk hl => setRow_other _ _ _ _ (by simpa using hl)⟩⟩, by simp [intOf]; omega⟩
          exact AllReadyH.nil
        exact AllReadyH.nil
      exact AllReadyH.nil
    · have h9 : 128 * k = L := by omega
      have hI : ¬ ((128 * k : Nat) : Int) < (L : Int) := by omega
      have hq : L / 128 = k := by omega
      have HE : Hid (sha f n = dig (run KK IV u k)) := by show sha f n = _; rw [HS.out, hq]
      clear HS hq h9
      have K2 := K1.trans c0 (by simp; omega)
      generalize run KK IV u k = S at *
      go_wp2_with fail
      refine (Sum_s _ n f _ (hG.chg K2 (by simp) (by simp)) (hv.chg K2 (Off.nil _)) (by have := HN.out; omega)).mono ?_
      rintro e v9 ⟨rfl, k9⟩
      have D := Blk.new v9 z64 42
      have A9 := b0.chg k9 (by simp)
      replace K2 := K2.trans1 k9
      clear k9
      rw [HE.out]
      go_wp2_with (refine wpList_store_row rfl 42 _ _ rfl v9.heap.size _ rfl rfl 42 _ D (by rw [yC_size]; exact DInfo) (by rw [yC_size]; rfl) (yC_one _ _) ?_)
      have dlt := A9.lt
      have D1 := D.setRow (yC 64 (dig S))
      replace A9 := (A9.alloc (.cells z64 42)).setRowOther (show a ≠ v9.heap.size by omega) (yC 64 (dig S))
      replace K2 := (K2.alloc (.cells z64 42)).setRowNew K2.size (yC 64 (dig S))
      change Code.wp _ _ _ _ ((v9.alloc (.cells z64 42)).setRow v9.heap.size (yC 64 (dig S)))
      generalize (v9.alloc (.cells z64 42)).setRow v9.heap.size (yC 64 (dig S)) = vA at *
      generalize v9.heap.size = d at *
      clear D b0 c0
      go_loopw [12] (fun t wr => ∃ i : Nat, i ≤ 64 ∧ t = .int .i64 (i : Int) ∧ Chg vA wr []) (fun t _ => (64 - intOf t).toNat)
      case atStart => exact ⟨0, by omega, rfl, Chg.refl _ _⟩
      case round =>
        obtain ⟨i, hi, rfl, c0⟩ := hrel
        by_cases h8 : i < 64
        · have hI : (i : Int) < 64 := by omega
          obtain ⟨p, hp⟩ : ∃ p, i / 8 = p := ⟨_, rfl⟩
          obtain ⟨q, hq⟩ : ∃ q, i % 8 = q := ⟨_, rfl⟩
          obtain ⟨r, hr⟩ : ∃ r, 56 - 8 * q = r := ⟨_, rfl⟩
          have hp8 : (p : Int) < 8 := by omega
          have hdv : (i : Int).tdiv 8 = (p : Int) := by rw [Int.tdiv_eq_ediv_of_nonneg (by omega)]; omega
          have hmd : (i : Int).tmod 8 = (q : Int) := by rw [Int.tmod_eq_emod_of_nonneg (by omega)]; omega
          have hdv2 : (i : Int) / 8 = (p : Int) := by omega
          have hmd2 : (i : Int) % 8 = (q : Int) := by omega
          have hsb : (56 : Int) - 8 * (q : Int) = (r : Int) := by omega
          have hwr : IntKind.u64.wrap (r : Int) = (r : Int) := by rw [IntKind.wrap_u64]; omega
          have hmi : min r 64 = r := by omega
          have cD := ((D1.chg c0 (by simp)).cell i).trans (yC_get 64 _ i h8)
          have cW := ((A9.chg c0 (by simp)).cell p).trans (vC_get 8 _ p (by omega))
          have HD : Hid (dig S i = S p / 2 ^ r % 256) := by
            show dig S i = _
            unfold dig
            rw [hp, hq, show (256 : Nat) = 2 ^ 8 from rfl, ← Nat.pow_mul, show 8 * (7 - q) = r by omega]
          generalize hdg : dig S i = x at *
          clear hp hq hr hdg
          have hne : ((x : Int) != ((S p : Nat) : Int) / 2 ^ r % 256) = false := by
            rw [bne_eq_false_iff_eq, HD.out, Int.natCast_emod, Int.natCast_ediv, Int.natCast_pow]
            rfl
          go_wp2_with fail
          go_quiet (fail)
          go_wp2_with fail
          exact ⟨⟨i + 1, by omega, by go_num, c0.drewN _⟩, by simp [intOf]; omega⟩
        · have h64 : i = 64 := by omega
          subst h64
          go_wp2_with fail
          go_ret
          exact ⟨rfl, K2.trans1 c0⟩
end Go.Proofs.YtjcgjhncdaplcaaDoor
