/- Joined: Word, Bytes, Load. -/
import Derived.Test.YthpfdnkcepfbaaaDoorG
import Derived.Test.YthpfdnkcepfbaaaDoorMgR
import Derived.Test.YthpfdnkcepfbaaaDoorMgS
/- word, putWord: eight bytes as a number and back. -/
set_option linter.unusedVariables false
set_option linter.unusedSimpArgs false
set_option linter.unnecessarySimpa false
namespace Go.Proofs.YthpfdnkcepfbaaaDoor
open Go.RowKit

set_option maxHeartbeats 4000000 in
set_option maxRecDepth 100000 in
theorem word_anyQ (g o c : Nat) (b0 b1 b2 b3 b4 b5 b6 b7 : Int) (w : World)
    (h0 : 0 ≤ b0 ∧ b0 < 256) (h1 : 0 ≤ b1 ∧ b1 < 256) (h2 : 0 ≤ b2 ∧ b2 < 256) (h3 : 0 ≤ b3 ∧ b3 < 256) (h4 : 0 ≤ b4 ∧ b4 < 256) (h5 : 0 ≤ b5 ∧ b5 < 256) (h6 : 0 ≤ b6 ∧ b6 < 256) (h7 : 0 ≤ b7 ∧ b7 < 256)
    (c0 : w.cell? ⟨g, o, none⟩ = some (.int .u8 b0)) (c1 : w.cell? ⟨g, o + 1, none⟩ = some (.int .u8 b1)) (c2 : w.cell? ⟨g, o + 2, none⟩ = some (.int .u8 b2)) (c3 : w.cell? ⟨g, o + 3, none⟩ = some (.int .u8 b3)) (c4 : w.cell? ⟨g, o + 4, none⟩ = some (.int .u8 b4)) (c5 : w.cell? ⟨g, o + 5, none⟩ = some (.int .u8 b5)) (c6 : w.cell? ⟨g, o + 6, none⟩ = some (.int .u8 b6)) (c7 : w.cell? ⟨g, o + 7, none⟩ = some (.int .u8 b7)) :
    Calls Tryd.prog 149 #[.slice (some ⟨g, o, none⟩) 8 c] w fun e w' => e = .returned (.int .u64 (b0 + b1 * 256 + b2 * 65536 + b3 * 16777216 + b4 * 4294967296 + b5 * 1099511627776 + b6 * 281474976710656 + b7 * 72057594037927936)) ∧ ∃ m, w' = w.drewN m := by
  obtain ⟨l0, u0⟩ := h0; obtain ⟨l1, u1⟩ := h1; obtain ⟨l2, u2⟩ := h2; obtain ⟨l3, u3⟩ := h3; obtain ⟨l4, u4⟩ := h4; obtain ⟨l5, u5⟩ := h5; obtain ⟨l6, u6⟩ := h6; obtain ⟨l7, u7⟩ := h7
  have m1 : bits .or .u64 (b0) (b1 * 256) = b0 + b1 * 256 := or_join 8 _ _ (by decide) (by omega) (by simp only [Int.reducePow]; omega) (by omega) (by omega) (by simp only [Int.reducePow]; omega)
  have m2 : bits .or .u64 (b0 + b1 * 256) (b2 * 65536) = b0 + b1 * 256 + b2 * 65536 := or_join 16 _ _ (by decide) (by omega) (by simp only [Int.reducePow]; omega) (by omega) (by omega) (by simp only [Int.reducePow]; omega)
  have m3 : bits .or .u64 (b0 + b1 * 256 + b2 * 65536) (b3 * 16777216) = b0 + b1 * 256 + b2 * 65536 + b3 * 16777216 := or_join 24 _ _ (by decide) (by omega) (by simp only [Int.reducePow]; omega) (by omega) (by omega) (by simp only [Int.reducePow]; omega)
  have m4 : bits .or .u64 (b0 + b1 * 256 + b2 * 65536 + b3 * 16777216) (b4 * 4294967296) = b0 + b1 * 256 + b2 * 65536 + b3 * 16777216 + b4 * 4294967296 := or_join 32 _ _ (by decide) (by omega) (by simp only [Int.reducePow]; omega) (by omega) (by omega) (by simp only [Int.reducePow]; omega)
  have m5 : bits .or .u64 (b0 + b1 * 256 + b2 * 65536 + b3 * 16777216 + b4 * 4294967296) (b5 * 1099511627776) = b0 + b1 * 256 + b2 * 65536 + b3 * 16777216 + b4 * 4294967296 + b5 * 1099511627776 := or_join 40 _ _ (by decide) (by omega) (by simp only [Int.reducePow]; omega) (by omega) (by omega) (by simp only [Int.reducePow]; omega)
  have m6 : bits .or .u64 (b0 + b1 * 256 + b2 * 65536 + b3 * 16777216 + b4 * 4294967296 + b5 * 1099511627776) (b6 * 281474976710656) = b0 + b1 * 256 + b2 * 65536 + b3 * 16777216 + b4 * 4294967296 + b5 * 1099511627776 + b6 * 281474976710656 := or_join 48 _ _ (by decide) (by omega) (by simp only [Int.reducePow]; omega) (by omega) (by omega) (by simp only [Int.reducePow]; omega)
  have m7 : bits .or .u64 (b0 + b1 * 256 + b2 * 65536 + b3 * 16777216 + b4 * 4294967296 + b5 * 1099511627776 + b6 * 281474976710656) (b7 * 72057594037927936) = b0 + b1 * 256 + b2 * 65536 + b3 * 16777216 + b4 * 4294967296 + b5 * 1099511627776 + b6 * 281474976710656 + b7 * 72057594037927936 := or_join 56 _ _ (by decide) (by omega) (by simp only [Int.reducePow]; omega) (by omega) (by omega) (by simp only [Int.reducePow]; omega)
  go_enter Tryd.func149, Tryd.ntmps149
  go_wp2
  go_quiet (fail)
  go_wp2
  go_ret
  exact ⟨rfl, _, rfl⟩

set_option maxHeartbeats 4000000 in
set_option maxRecDepth 100000 in
theorem putWord_anyQ (g o c : Nat) (v : Int) (hv : 0 ≤ v) (hv1 : v < 18446744073709551616) (x0 x1 x2 x3 x4 x5 x6 x7 : Value) (w : World)
    (c0 : w.cell? ⟨g, o, none⟩ = some x0) (c1 : w.cell? ⟨g, o + 1, none⟩ = some x1) (c2 : w.cell? ⟨g, o + 2, none⟩ = some x2) (c3 : w.cell? ⟨g, o + 3, none⟩ = some x3) (c4 : w.cell? ⟨g, o + 4, none⟩ = some x4) (c5 : w.cell? ⟨g, o + 5, none⟩ = some x5) (c6 : w.cell? ⟨g, o + 6, none⟩ = some x6) (c7 : w.cell? ⟨g, o + 7, none⟩ = some x7)
    (f0 : w.frozen? ⟨g, o, none⟩ = false) (f1 : w.frozen? ⟨g, o + 1, none⟩ = false) (f2 : w.frozen? ⟨g, o + 2, none⟩ = false) (f3 : w.frozen? ⟨g, o + 3, none⟩ = false) (f4 : w.frozen? ⟨g, o + 4, none⟩ = false) (f5 : w.frozen? ⟨g, o + 5, none⟩ = false) (f6 : w.frozen? ⟨g, o + 6, none⟩ = false) (f7 : w.frozen? ⟨g, o + 7, none⟩ = false) :
    Calls Tryd.prog 154 #[.slice (some ⟨g, o, none⟩) 8 c, .int .u64 v] w fun e w' => e = .returned (.tuple #[]) ∧ w' = ((((((((w.setCell ⟨g, o, none⟩ (.int .u8 (v % 256))).setCell ⟨g, o + 1, none⟩ (.int .u8 (v / 256 % 256))).setCell ⟨g, o + 2, none⟩ (.int .u8 (v / 65536 % 256))).setCell ⟨g, o + 3, none⟩ (.int .u8 (v / 16777216 % 256))).setCell ⟨g, o + 4, none⟩ (.int .u8 (v / 4294967296 % 256))).setCell ⟨g, o + 5, none⟩ (.int .u8 (v / 1099511627776 % 256))).setCell ⟨g, o + 6, none⟩ (.int .u8 (v / 281474976710656 % 256))).setCell ⟨g, o + 7, none⟩ (.int .u8 (v / 72057594037927936 % 256))) := by
  go_enter Tryd.func154, Tryd.ntmps154
  go_wp2
  go_end0
  rw [show v / 72057594037927936 % 256 = v / 72057594037927936 from by omega]
  exact ⟨rfl, rfl⟩
theorem word_fe0 (g c : Nat) (n : Int) (T : TypeId) (w : World) (hb : Blk w g (feC n) T) :
    Calls Tryd.prog 149 #[.slice (some ⟨g, 0, none⟩) 8 c] w fun e w' => e = .returned (.int .u64 (n / 1 % 18446744073709551616)) ∧ ∃ m, w' = w.drewN m := by
  rw [← w8_0 n]
  exact word_anyQ g 0 c _ _ _ _ _ _ _ _ w (by8_bd n 0) (by8_bd n 1) (by8_bd n 2) (by8_bd n 3) (by8_bd n 4) (by8_bd n 5) (by8_bd n 6) (by8_bd n 7)
    (hb.cell 0) (hb.cell 1) (hb.cell 2) (hb.cell 3) (hb.cell 4) (hb.cell 5) (hb.cell 6) (hb.cell 7)

theorem word_fe1 (g c : Nat) (n : Int) (T : TypeId) (w : World) (hb : Blk w g (feC n) T) :
    Calls Tryd.prog 149 #[.slice (some ⟨g, 8, none⟩) 8 c] w fun e w' => e = .returned (.int .u64 (n / 18446744073709551616 % 18446744073709551616)) ∧ ∃ m, w' = w.drewN m := by
  rw [← w8_1 n]
  exact word_anyQ g 8 c _ _ _ _ _ _ _ _ w (by8_bd n 8) (by8_bd n 9) (by8_bd n 10) (by8_bd n 11) (by8_bd n 12) (by8_bd n 13) (by8_bd n 14) (by8_bd n 15)
    (hb.cell 8) (hb.cell 9) (hb.cell 10) (hb.cell 11) (hb.cell 12) (hb.cell 13) (hb.cell 14) (hb.cell 15)

theorem word_fe2 (g c : Nat) (n : Int) (T : TypeId) (w : World) (hb : Blk w g (feC n) T) :
    Calls Tryd.prog 149 #[.slice (some ⟨g, 16, none⟩) 8 c] w fun e w' => e = .returned (.int .u64 (n / 340282366920938463463374607431768211456 % 18446744073709551616)) ∧ ∃ m, w' = w.drewN m := by
  rw [← w8_2 n]
  exact word_anyQ g 16 c _ _ _ _ _ _ _ _ w (by8_bd n 16) (by8_bd n 17) (by8_bd n 18) (by8_bd n 19) (by8_bd n 20) (by8_bd n 21) (by8_bd n 22) (by8_bd n 23)
    (hb.cell 16) (hb.cell 17) (hb.cell 18) (hb.cell 19) (hb.cell 20) (hb.cell 21) (hb.cell 22) (hb.cell 23)

theorem word_fe3 (g c : Nat) (n : Int) (T : TypeId) (w : World) (hb : Blk w g (feC n) T) :
    Calls Tryd.prog 149 #[.slice (some ⟨g, 24, none⟩) 8 c] w fun e w' => e = .returned (.int .u64 (n / 6277101735386680763835789423207666416102355444464034512896 % 18446744073709551616)) ∧ ∃ m, w' = w.drewN m := by
  rw [← w8_3 n]
  exact word_anyQ g 24 c _ _ _ _ _ _ _ _ w (by8_bd n 24) (by8_bd n 25) (by8_bd n 26) (by8_bd n 27) (by8_bd n 28) (by8_bd n 29) (by8_bd n 30) (by8_bd n 31)
    (hb.cell 24) (hb.cell 25) (hb.cell 26) (hb.cell 27) (hb.cell 28) (hb.cell 29) (hb.cell 30) (hb.cell 31)

theorem putWord_blk (g o k : Nat) (v : Int) (hv : 0 ≤ v) (hv1 : v < 18446744073709551616) (c : Array Value) (T : TypeId) (w : World) (hb : Blk w g c T) (ho : o + 8 ≤ c.size) :
    Calls Tryd.prog 154 #[.slice (some ⟨g, o, none⟩) 8 k, .int .u64 v] w fun e w' => e = .returned (.tuple #[]) ∧ Blk w' g ((((((((c.setIfInBounds (o) (.int .u8 (v % 256))).setIfInBounds (o + 1) (.int .u8 (v / 256 % 256))).setIfInBounds (o + 2) (.int .u8 (v / 65536 % 256))).setIfInBounds (o + 3) (.int .u8 (v / 16777216 % 256))).setIfInBounds (o + 4) (.int .u8 (v / 4294967296 % 256))).setIfInBounds (o + 5) (.int .u8 (v / 1099511627776 % 256))).setIfInBounds (o + 6) (.int .u8 (v / 281474976710656 % 256))).setIfInBounds (o + 7) (.int .u8 (v / 72057594037927936 % 256))) T ∧ w.grownBy w' (some g) := by
  have hc : ∀ i, i < 8 → w.cell? ⟨g, o + i, none⟩ = some (c[o + i]?.getD (.int .u8 0)) := fun i hi => by
    rw [hb.cell, Array.getElem?_eq_getElem (by omega)]; rfl
  refine (putWord_anyQ g o k v hv hv1 _ _ _ _ _ _ _ _ w (hc 0 (by omega)) (hc 1 (by omega)) (hc 2 (by omega)) (hc 3 (by omega)) (hc 4 (by omega)) (hc 5 (by omega)) (hc 6 (by omega)) (hc 7 (by omega))
    (hb.frozen _) (hb.frozen _) (hb.frozen _) (hb.frozen _) (hb.frozen _) (hb.frozen _) (hb.frozen _) (hb.frozen _)).mono ?_
  rintro e w' ⟨he, rfl⟩
  exact ⟨he, by (repeat (first | with_reducible assumption | with_reducible exact Blk.new _ _ _ | with_reducible apply Blk.drew | with_reducible apply Blk.drewN | with_reducible apply Blk.setCell | with_reducible apply Blk.alloc)), by (repeat (first | with_reducible exact gb_refl _ _ | with_reducible assumption | with_reducible apply gb_drew | with_reducible apply gb_drewN | with_reducible apply gb_set | with_reducible apply gb_alloc))⟩

end Go.Proofs.YthpfdnkcepfbaaaDoor

/- (*number).bytes: a number's 32 bytes. -/
namespace Go.Proofs.YthpfdnkcepfbaaaDoor
open Go.RowKit N

theorem feInfo : (Tryd.prog.info? 86).map (·.size) = some 32 := by kernel_rfl

set_option maxHeartbeats 4000000 in
set_option maxRecDepth 100000 in
theorem bytes_any (z : Nat) (n : Int) (rn : R256 n) (w : World) (hz : NumAt w z n) :
    Calls Tryd.prog 141 #[.pointer (some ⟨z, 0, none⟩)] w fun e w' => e = .returned (fe n) ∧ Chg w w' [] := by
  have hzlt := hz.lt
  have es := wrd_sum n rn.1 rn.2
  have HZ : Blk w z #[.int .u64 (wrd n 0), .int .u64 (wrd n 1), .int .u64 (wrd n 2), .int .u64 (wrd n 3)] 248 := hz
  have q0 := wrd_wo n 0; have q1 := wrd_wo n 1; have q2 := wrd_wo n 2; have q3 := wrd_wo n 3
  generalize wrd n 0 = W0 at *; generalize wrd n 1 = W1 at *; generalize wrd n 2 = W2 at *; generalize wrd n 3 = W3 at *
  clear hz
  have HS : Hid (W0 + W1 * 18446744073709551616 + W2 * 340282366920938463463374607431768211456 + W3 * 6277101735386680763835789423207666416102355444464034512896 = n) := es
  clear es
  have HA : Blk (w.alloc (.cells z32 86)) w.heap.size z32 86 := Blk.new w z32 86
  have CC : Chg w (w.alloc (.cells z32 86)) [] := (Chg.refl w []).alloc _
  replace HZ := HZ.alloc (.cells z32 86)
  go_enter Tryd.func141, Tryd.ntmps141
  go_wp2_with fail
  change Code.wp _ _ _ _ (w.alloc (.cells z32 86))
  have hne : ¬ z = w.heap.size := by omega
  have hle : w.heap.size ≤ w.heap.size := Nat.le_refl _
  generalize hv : w.alloc (.cells z32 86) = ψ0 at *
  clear hv
  generalize hg : w.heap.size = g at HA hne hle ⊢
  have HG : Hid (w.heap.size = g) := hg
  clear hg
  refine wp_region_held_drew (S := fun w' => Chg ψ0 w' [g]) (by kernel_rfl) ((Chg.refl ψ0 _).drew) (fun hHeld => ?_)
  refine take_val (v := (.slice (some ⟨g, 0, none⟩) 8 32)) 0 (some 3) rfl (by kernel_rfl) (by kernel_rfl) (by kernel_rfl) (fun _ _ _ h => h) rfl rfl (fun w hSw => ?_) hHeld ?_
  · (go_simp; try with_reducible rfl)
  try simp only [Act.put, List.setIfInBounds_toArray, List.set_cons_zero, List.set_cons_succ]
  refine take_val (v := ?_) 1 (some 4) rfl (by kernel_rfl) (by kernel_rfl) (by kernel_rfl) (fun _ _ _ h => h) rfl rfl (fun w hSw => ?_) hHeld ?_
  rotate_left
  · (go_simp; try with_reducible rfl)
  try simp only [Act.put, List.setIfInBounds_toArray, List.set_cons_zero, List.set_cons_succ]
  refine take_val (v := ?_) 2 (some 5) rfl (by kernel_rfl) (by kernel_rfl) (by kernel_rfl) (fun _ _ _ h => h) rfl rfl (fun w hSw => ?_) hHeld ?_
  rotate_left
  · (go_simp; try with_reducible rfl)
  try simp only [Act.put, List.setIfInBounds_toArray, List.set_cons_zero, List.set_cons_succ]
  refine take_val (v := ?_) 3 (some 6) rfl (by kernel_rfl) (by kernel_rfl) (by kernel_rfl) (fun _ _ _ h => h) rfl rfl (fun w hSw => ?_) hHeld ?_
  rotate_left
  · (go_simp; try with_reducible rfl)
  try simp only [Act.put, List.setIfInBounds_toArray, List.set_cons_zero, List.set_cons_succ]
  refine take_val (v := ?_) 4 (some 7) rfl (by kernel_rfl) (by kernel_rfl) (by kernel_rfl) (fun _ _ _ h => h) rfl rfl (fun w hSw => ?_) hHeld ?_
  rotate_left
  · have cx := (HZ.chg hSw (by simpa using hne)).cell 0
    (go_simp; try with_reducible rfl)
  try simp only [Act.put, List.setIfInBounds_toArray, List.set_cons_zero, List.set_cons_succ]
  refine wpAnyH_ready (rs := [5]) (by kernel_rfl) (by simp) ?_
  refine AllReadyH.cons (o := _) rfl (fun K hK => ?_) ?_
  ·
    go_simp
    refine (putWord_blk g 0 32 W0 q0.1 q0.2 _ 86 _ HA.drew (by simp [z32])).mono ?_
    rintro e ψ1 ⟨rfl, HA', kg⟩
    have kc := Chg.of kg
    clear kg HA
    have HA := HA'
    clear HA'
    go_wp2_with fail
    refine hK.out _ _ (hHeld.trans1 kc) (fun hHeld => ?_)
    clear hK K
    try simp only [Act.put, List.setIfInBounds_toArray, List.set_cons_zero, List.set_cons_succ]
    refine wpAnyH_done (by kernel_rfl) ?_ _
    replace HZ := HZ.chg hHeld (by simpa using hne)
    replace CC := CC.new hHeld (Nat.le_of_eq HG.out)
    clear hHeld kc
    go_wp2_with fail
    refine wp_region_held_drew (S := fun w' => Chg ψ1 w' [g]) (by kernel_rfl) ((Chg.refl ψ1 _).drew) (fun hHeld => ?_)
    refine take_val (v := (.slice (some ⟨g, 8, none⟩) 8 24)) 0 (some 9) rfl (by kernel_rfl) (by kernel_rfl) (by kernel_rfl) (fun _ _ _ h => h) rfl rfl (fun w hSw => ?_) hHeld ?_
    · (go_simp; try with_reducible rfl)
    try simp only [Act.put, List.setIfInBounds_toArray, List.set_cons_zero, List.set_cons_succ]
    refine take_val (v := ?_) 1 (some 10) rfl (by kernel_rfl) (by kernel_rfl) (by kernel_rfl) (fun _ _ _ h => h) rfl rfl (fun w hSw => ?_) hHeld ?_
    rotate_left
    · (go_simp; try with_reducible rfl)
    try simp only [Act.put, List.setIfInBounds_toArray, List.set_cons_zero, List.set_cons_succ]
    refine take_val (v := ?_) 2 (some 11) rfl (by kernel_rfl) (by kernel_rfl) (by kernel_rfl) (fun _ _ _ h => h) rfl rfl (fun w hSw => ?_) hHeld ?_
    rotate_left
    · (go_simp; try with_reducible rfl)
    try simp only [Act.put, List.setIfInBounds_toArray, List.set_cons_zero, List.set_cons_succ]
    refine take_val (v := ?_) 3 (some 12) rfl (by kernel_rfl) (by kernel_rfl) (by kernel_rfl) (fun _ _ _ h => h) rfl rfl (fun w hSw => ?_) hHeld ?_
    rotate_left
    · (go_simp; try with_reducible rfl)
    try simp only [Act.put, List.setIfInBounds_toArray, List.set_cons_zero, List.set_cons_succ]
    refine take_val (v := ?_) 4 (some 13) rfl (by kernel_rfl) (by kernel_rfl) (by kernel_rfl) (fun _ _ _ h => h) rfl rfl (fun w hSw => ?_) hHeld ?_
    rotate_left
    · have cx := (HZ.chg hSw (by simpa using hne)).cell 1
      (go_simp; try with_reducible rfl)
    try simp only [Act.put, List.setIfInBounds_toArray, List.set_cons_zero, List.set_cons_succ]
    refine wpAnyH_ready (rs := [5]) (by kernel_rfl) (by simp) ?_
    refine AllReadyH.cons (o := _) rfl (fun K hK => ?_) ?_
    ·
      go_simp
      refine (putWord_blk g 8 24 W1 q1.1 q1.2 _ 86 _ HA.drew (by simp [z32])).mono ?_
      rintro e ψ2 ⟨rfl, HA', kg⟩
      have kc := Chg.of kg
      clear kg HA
      have HA := HA'
      clear HA'
      go_wp2_with fail
      refine hK.out _ _ (hHeld.trans1 kc) (fun hHeld => ?_)
      clear hK K
      try simp only [Act.put, List.setIfInBounds_toArray, List.set_cons_zero, List.set_cons_succ]
      refine wpAnyH_done (by kernel_rfl) ?_ _
      replace HZ := HZ.chg hHeld (by simpa using hne)
      replace CC := CC.new hHeld (Nat.le_of_eq HG.out)
      clear hHeld kc
      go_wp2_with fail
      refine wp_region_held_drew (S := fun w' => Chg ψ2 w' [g]) (by kernel_rfl) ((Chg.refl ψ2 _).drew) (fun hHeld => ?_)
      refine take_val (v := (.slice (some ⟨g, 16, none⟩) 8 16)) 0 (some 15) rfl (by kernel_rfl) (by kernel_rfl) (by kernel_rfl) (fun _ _ _ h => h) rfl rfl (fun w hSw => ?_) hHeld ?_
      · (go_simp; try with_reducible rfl)
      try simp only [Act.put, List.setIfInBounds_toArray, List.set_cons_zero, List.set_cons_succ]
      refine take_val (v := ?_) 1 (some 16) rfl (by kernel_rfl) (by kernel_rfl) (by kernel_rfl) (fun _ _ _ h => h) rfl rfl (fun w hSw => ?_) hHeld ?_
      rotate_left
      · (go_simp; try with_reducible rfl)
      try simp only [Act.put, List.setIfInBounds_toArray, List.set_cons_zero, List.set_cons_succ]
      refine take_val (v := ?_) 2 (some 17) rfl (by kernel_rfl) (by kernel_rfl) (by kernel_rfl) (fun _ _ _ h => h) rfl rfl (fun w hSw => ?_) hHeld ?_
      rotate_left
      · (go_simp; try with_reducible rfl)
      try simp only [Act.put, List.setIfInBounds_toArray, List.set_cons_zero, List.set_cons_succ]
      refine take_val (v := ?_) 3 (some 18) rfl (by kernel_rfl) (by kernel_rfl) (by kernel_rfl) (fun _ _ _ h => h) rfl rfl (fun w hSw => ?_) hHeld ?_
      rotate_left
      · (go_simp; try with_reducible rfl)
      try simp only [Act.put, List.setIfInBounds_toArray, List.set_cons_zero, List.set_cons_succ]
      refine take_val (v := ?_) 4 (some 19) rfl (by kernel_rfl) (by kernel_rfl) (by kernel_rfl) (fun _ _ _ h => h) rfl rfl (fun w hSw => ?_) hHeld ?_
      rotate_left
      · have cx := (HZ.chg hSw (by simpa using hne)).cell 2
        (go_simp; try with_reducible rfl)
      try simp only [Act.put, List.setIfInBounds_toArray, List.set_cons_zero, List.set_cons_succ]
      refine wpAnyH_ready (rs := [5]) (by kernel_rfl) (by simp) ?_
      refine AllReadyH.cons (o := _) rfl (fun K hK => ?_) ?_
      ·
        go_simp
        refine (putWord_blk g 16 16 W2 q2.1 q2.2 _ 86 _ HA.drew (by simp [z32])).mono ?_
        rintro e ψ3 ⟨rfl, HA', kg⟩
        have kc := Chg.of kg
        clear kg HA
        have HA := HA'
        clear HA'
        go_wp2_with fail
        refine hK.out _ _ (hHeld.trans1 kc) (fun hHeld => ?_)
        clear hK K
        try simp only [Act.put, List.setIfInBounds_toArray, List.set_cons_zero, List.set_cons_succ]
        refine wpAnyH_done (by kernel_rfl) ?_ _
        replace HZ := HZ.chg hHeld (by simpa using hne)
        replace CC := CC.new hHeld (Nat.le_of_eq HG.out)
        clear hHeld kc
        go_wp2_with fail
        refine wp_region_held_drew (S := fun w' => Chg ψ3 w' [g]) (by kernel_rfl) ((Chg.refl ψ3 _).drew) (fun hHeld => ?_)
        refine take_val (v := (.slice (some ⟨g, 24, none⟩) 8 8)) 0 (some 21) rfl (by kernel_rfl) (by kernel_rfl) (by kernel_rfl) (fun _ _ _ h => h) rfl rfl (fun w hSw => ?_) hHeld ?_
        · (go_simp; try with_reducible rfl)
        try simp only [Act.put, List.setIfInBounds_toArray, List.set_cons_zero, List.set_cons_succ]
        refine take_val (v := ?_) 1 (some 22) rfl (by kernel_rfl) (by kernel_rfl) (by kernel_rfl) (fun _ _ _ h => h) rfl rfl (fun w hSw => ?_) hHeld ?_
        rotate_left
        · (go_simp; try with_reducible rfl)
        try simp only [Act.put, List.setIfInBounds_toArray, List.set_cons_zero, List.set_cons_succ]
        refine take_val (v := ?_) 2 (some 23) rfl (by kernel_rfl) (by kernel_rfl) (by kernel_rfl) (fun _ _ _ h => h) rfl rfl (fun w hSw => ?_) hHeld ?_
        rotate_left
        · (go_simp; try with_reducible rfl)
        try simp only [Act.put, List.setIfInBounds_toArray, List.set_cons_zero, List.set_cons_succ]
        refine take_val (v := ?_) 3 (some 24) rfl (by kernel_rfl) (by kernel_rfl) (by kernel_rfl) (fun _ _ _ h => h) rfl rfl (fun w hSw => ?_) hHeld ?_
        rotate_left
        · (go_simp; try with_reducible rfl)
        try simp only [Act.put, List.setIfInBounds_toArray, List.set_cons_zero, List.set_cons_succ]
        refine take_val (v := ?_) 4 (some 25) rfl (by kernel_rfl) (by kernel_rfl) (by kernel_rfl) (fun _ _ _ h => h) rfl rfl (fun w hSw => ?_) hHeld ?_
        rotate_left
        · have cx := (HZ.chg hSw (by simpa using hne)).cell 3
          (go_simp; try with_reducible rfl)
        try simp only [Act.put, List.setIfInBounds_toArray, List.set_cons_zero, List.set_cons_succ]
        refine wpAnyH_ready (rs := [5]) (by kernel_rfl) (by simp) ?_
        refine AllReadyH.cons (o := _) rfl (fun K hK => ?_) ?_
        ·
          go_simp
          refine (putWord_blk g 24 8 W3 q3.1 q3.2 _ 86 _ HA.drew (by simp [z32])).mono ?_
          rintro e ψ4 ⟨rfl, HA', kg⟩
          have kc := Chg.of kg
          clear kg HA
          have HA := HA'
          clear HA'
          go_wp2_with fail
          refine hK.out _ _ (hHeld.trans1 kc) (fun hHeld => ?_)
          clear hK K
          try simp only [Act.put, List.setIfInBounds_toArray, List.set_cons_zero, List.set_cons_succ]
          refine wpAnyH_done (by kernel_rfl) ?_ _
          replace HZ := HZ.chg hHeld (by simpa using hne)
          replace CC := CC.new hHeld (Nat.le_of_eq HG.out)
          clear hHeld kc
          have HF : Blk ψ4 g (feC n) 86 := by
            refine Blk.to HA ?_
            rw [← HS.out, ← feC_of W0 W1 W2 W3 q0 q1 q2 q3]
            simp [z32]
          clear HA
          go_wp2_with (first | (refine wpList_load_row rfl 86 _ rfl g rfl 86 _ (0, 0) _ HF Tryd.underlying86 rfl feInfo ?_) | (refine wpList_store_row rfl 86 _ _ rfl g _ rfl rfl 86 _ HF feInfo rfl (feC_one _) ?_))
          refine bodyPost_ret (results_cell_row Tryd.results141 _ _ g 86 (feC n) (0, 0) _ rfl (Blk.setRow HF _) Tryd.underlying86 rfl feInfo) rfl ⟨rfl, ?_⟩
          exact CC.setRowNew (Nat.le_of_eq HG.out) _
        exact AllReadyH.nil
      exact AllReadyH.nil
    exact AllReadyH.nil
  exact AllReadyH.nil
end Go.Proofs.YthpfdnkcepfbaaaDoor

/- (*number).load: 32 bytes as a number modulo the order. -/
namespace Go.Proofs.YthpfdnkcepfbaaaDoor
open Go.RowKit N

theorem word_w0 (g : Nat) (n : Int) (w : World) (hb : Blk w g (feC n) 86) :
    Calls Tryd.prog 149 #[.slice (some ⟨g, 0, none⟩) 8 32] w fun e w' => e = .returned (.int .u64 (wrd n 0)) ∧ Chg w w' [] := by
  refine (word_fe0 g 32 n 86 w hb).mono ?_
  rintro e w' ⟨rfl, m, rfl⟩
  rw [wrd0]
  exact ⟨by rw [Int.ediv_one], (Chg.refl w _).drewN m⟩
theorem word_w1 (g : Nat) (n : Int) (w : World) (hb : Blk w g (feC n) 86) :
    Calls Tryd.prog 149 #[.slice (some ⟨g, 8, none⟩) 8 24] w fun e w' => e = .returned (.int .u64 (wrd n 1)) ∧ Chg w w' [] := by
  refine (word_fe1 g 24 n 86 w hb).mono ?_
  rintro e w' ⟨rfl, m, rfl⟩
  rw [wrd1]
  exact ⟨rfl, (Chg.refl w _).drewN m⟩
theorem word_w2 (g : Nat) (n : Int) (w : World) (hb : Blk w g (feC n) 86) :
    Calls Tryd.prog 149 #[.slice (some ⟨g, 16, none⟩) 8 16] w fun e w' => e = .returned (.int .u64 (wrd n 2)) ∧ Chg w w' [] := by
  refine (word_fe2 g 16 n 86 w hb).mono ?_
  rintro e w' ⟨rfl, m, rfl⟩
  rw [wrd2]
  exact ⟨rfl, (Chg.refl w _).drewN m⟩
theorem word_w3 (g : Nat) (n : Int) (w : World) (hb : Blk w g (feC n) 86) :
    Calls Tryd.prog 149 #[.slice (some ⟨g, 24, none⟩) 8 8] w fun e w' => e = .returned (.int .u64 (wrd n 3)) ∧ Chg w w' [] := by
  refine (word_fe3 g 8 n 86 w hb).mono ?_
  rintro e w' ⟨rfl, m, rfl⟩
  rw [wrd3]
  exact ⟨rfl, (Chg.refl w _).drewN m⟩
theorem load_val (n : Int) (h : R256 n) : RL (n % 7237005577332262213973186563042994240829374041602535252466099000494570602496) ∧ RL (n / 7237005577332262213973186563042994240829374041602535252466099000494570602496 * 27742317777372353535851937790883648493) ∧ (n % 7237005577332262213973186563042994240829374041602535252466099000494570602496 - n / 7237005577332262213973186563042994240829374041602535252466099000494570602496 * 27742317777372353535851937790883648493) % L = n % L := by
  unfold RL L R256 at *; omega
theorem load_low (n : Int) (h : R256 n) (h3 : wrd n 3 ≤ 1152921504606846975) : n % L = n := by
  have e : n / 6277101735386680763835789423207666416102355444464034512896 % 18446744073709551616 = n / 6277101735386680763835789423207666416102355444464034512896 := by unfold R256 at h; omega
  rw [wrd3, e] at h3; unfold L R256 at *; omega

set_option maxHeartbeats 4000000 in
set_option maxRecDepth 100000 in
theorem load_any (z g : Nat) (n : Int) (rn : R256 n) (hne : ¬ g = z) (w : World) (hz : An w z) (hg : Blk w g (feC n) 86) :
    Calls Tryd.prog 139 #[.pointer (some ⟨z, 0, none⟩), .pointer (some ⟨g, 0, none⟩)] w fun e w' => e = .returned (.tuple #[]) ∧ NumAt w' z (n % L) ∧ Chg w w' [z] := by
  have hzl := hz.lt
  obtain ⟨x0, x1, x2, x3, HZ⟩ := hz
  obtain ⟨lv0, lv1, lv2⟩ := load_val n rn
  have HLV : Hid ((n % 7237005577332262213973186563042994240829374041602535252466099000494570602496 - n / 7237005577332262213973186563042994240829374041602535252466099000494570602496 * 27742317777372353535851937790883648493) % L = n % L) := lv2
  have hs := wd8_small n rn.1 rn.2
  have HS : Hid (#[.int .u64 (wrd n 0), .int .u64 (wrd n 1), .int .u64 (wrd n 2), .int .u64 (wrd n 3), .int .u64 0, .int .u64 0, .int .u64 0, .int .u64 0] = wd8 n) := hs
  have CC : Chg w w [z] := Chg.refl w _
  have HL : Hid (wrd n 3 ≤ 1152921504606846975 → n % L = n) := load_low n rn
  have H4 : Hid (wd4 n = #[.int .u64 (wrd n 0), .int .u64 (wrd n 1), .int .u64 (wrd n 2), .int .u64 (wrd n 3)]) := rfl
  clear hs lv2
  have S0 := word_w0 g n; have S1 := word_w1 g n; have S2 := word_w2 g n; have S3 := word_w3 g n
  generalize wrd n 0 = W0 at *; generalize wrd n 1 = W1 at *; generalize wrd n 2 = W2 at *; generalize wrd n 3 = W3 at *
  go_enter Tryd.func139, Tryd.ntmps139
  go_wp2_with fail
  refine wp_region_held_drew (S := fun w' => Chg w w' [z]) (by kernel_rfl) ((Chg.refl w _).drew) (fun hHeld => ?_)
  refine take_val (v := ?_) 0 (some 6) rfl (by kernel_rfl) (by kernel_rfl) (by kernel_rfl) (fun _ _ _ h => h) rfl rfl (fun w hSw => ?_) hHeld ?_
  rotate_left
  · (go_simp; try with_reducible rfl)
  try simp only [Act.put, List.setIfInBounds_toArray, List.set_cons_zero, List.set_cons_succ]
  refine take_val (v := ?_) 1 (some 7) rfl (by kernel_rfl) (by kernel_rfl) (by kernel_rfl) (fun _ _ _ h => h) rfl rfl (fun w hSw => ?_) hHeld ?_
  rotate_left
  · (go_simp; try with_reducible rfl)
  try simp only [Act.put, List.setIfInBounds_toArray, List.set_cons_zero, List.set_cons_succ]
  refine take_val (v := ?_) 2 (some 8) rfl (by kernel_rfl) (by kernel_rfl) (by kernel_rfl) (fun _ _ _ h => h) rfl rfl (fun w hSw => ?_) hHeld ?_
  rotate_left
  · (go_simp; try with_reducible rfl)
  try simp only [Act.put, List.setIfInBounds_toArray, List.set_cons_zero, List.set_cons_succ]
  refine take_val (v := ?_) 3 (some 9) rfl (by kernel_rfl) (by kernel_rfl) (by kernel_rfl) (fun _ _ _ h => h) rfl rfl (fun w hSw => ?_) hHeld ?_
  rotate_left
  · (go_simp; try with_reducible rfl)
  try simp only [Act.put, List.setIfInBounds_toArray, List.set_cons_zero, List.set_cons_succ]
  refine take_val (v := ?_) 4 (some 10) rfl (by kernel_rfl) (by kernel_rfl) (by kernel_rfl) (fun _ _ _ h => h) rfl rfl (fun w hSw => ?_) hHeld ?_
  rotate_left
  · (go_simp; try with_reducible rfl)
  try simp only [Act.put, List.setIfInBounds_toArray, List.set_cons_zero, List.set_cons_succ]
  refine take_val (v := ?_) 5 (some 11) rfl (by kernel_rfl) (by kernel_rfl) (by kernel_rfl) (fun _ _ _ h => h) rfl rfl (fun w hSw => ?_) hHeld ?_
  rotate_left
  · (go_simp; try with_reducible rfl)
  try simp only [Act.put, List.setIfInBounds_toArray, List.set_cons_zero, List.set_cons_succ]
  refine take_val (v := (.slice (some ⟨g, 0, none⟩) 8 32)) 6 (some 12) rfl (by kernel_rfl) (by kernel_rfl) (by kernel_rfl) (fun _ _ _ h => h) rfl rfl (fun w hSw => ?_) hHeld ?_
  · (go_simp; try with_reducible rfl)
  try simp only [Act.put, List.setIfInBounds_toArray, List.set_cons_zero, List.set_cons_succ]
  refine take_val (v := ?_) 8 (some 14) rfl (by kernel_rfl) (by kernel_rfl) (by kernel_rfl) (fun _ _ _ h => h) rfl rfl (fun w hSw => ?_) hHeld ?_
  rotate_left
  · (go_simp; try with_reducible rfl)
  try simp only [Act.put, List.setIfInBounds_toArray, List.set_cons_zero, List.set_cons_succ]
  refine take_val (v := ?_) 9 (some 15) rfl (by kernel_rfl) (by kernel_rfl) (by kernel_rfl) (fun _ _ _ h => h) rfl rfl (fun w hSw => ?_) hHeld ?_
  rotate_left
  · (go_simp; try with_reducible rfl)
  try simp only [Act.put, List.setIfInBounds_toArray, List.set_cons_zero, List.set_cons_succ]
  refine take_val (v := (.slice (some ⟨g, 8, none⟩) 8 24)) 10 (some 16) rfl (by kernel_rfl) (by kernel_rfl) (by kernel_rfl) (fun _ _ _ h => h) rfl rfl (fun w hSw => ?_) hHeld ?_
  · (go_simp; try with_reducible rfl)
  try simp only [Act.put, List.setIfInBounds_toArray, List.set_cons_zero, List.set_cons_succ]
  refine take_val (v := ?_) 12 (some 18) rfl (by kernel_rfl) (by kernel_rfl) (by kernel_rfl) (fun _ _ _ h => h) rfl rfl (fun w hSw => ?_) hHeld ?_
  rotate_left
  · (go_simp; try with_reducible rfl)
  try simp only [Act.put, List.setIfInBounds_toArray, List.set_cons_zero, List.set_cons_succ]
  refine take_val (v := ?_) 13 (some 19) rfl (by kernel_rfl) (by kernel_rfl) (by kernel_rfl) (fun _ _ _ h => h) rfl rfl (fun w hSw => ?_) hHeld ?_
  rotate_left
  · (go_simp; try with_reducible rfl)
  try simp only [Act.put, List.setIfInBounds_toArray, List.set_cons_zero, List.set_cons_succ]
  refine take_val (v := (.slice (some ⟨g, 16, none⟩) 8 16)) 14 (some 20) rfl (by kernel_rfl) (by kernel_rfl) (by kernel_rfl) (fun _ _ _ h => h) rfl rfl (fun w hSw => ?_) hHeld ?_
  · (go_simp; try with_reducible rfl)
  try simp only [Act.put, List.setIfInBounds_toArray, List.set_cons_zero, List.set_cons_succ]
  refine take_val (v := ?_) 16 (some 22) rfl (by kernel_rfl) (by kernel_rfl) (by kernel_rfl) (fun _ _ _ h => h) rfl rfl (fun w hSw => ?_) hHeld ?_
  rotate_left
  · (go_simp; try with_reducible rfl)
  try simp only [Act.put, List.setIfInBounds_toArray, List.set_cons_zero, List.set_cons_succ]
  refine take_val (v := ?_) 17 (some 23) rfl (by kernel_rfl) (by kernel_rfl) (by kernel_rfl) (fun _ _ _ h => h) rfl rfl (fun w hSw => ?_) hHeld ?_
  rotate_left
  · (go_simp; try with_reducible rfl)
  try simp only [Act.put, List.setIfInBounds_toArray, List.set_cons_zero, List.set_cons_succ]
  refine take_val (v := (.slice (some ⟨g, 24, none⟩) 8 8)) 18 (some 24) rfl (by kernel_rfl) (by kernel_rfl) (by kernel_rfl) (fun _ _ _ h => h) rfl rfl (fun w hSw => ?_) hHeld ?_
  · (go_simp; try with_reducible rfl)
  try simp only [Act.put, List.setIfInBounds_toArray, List.set_cons_zero, List.set_cons_succ]
  refine take_val (v := ?_) 20 (some 26) rfl (by kernel_rfl) (by kernel_rfl) (by kernel_rfl) (fun _ _ _ h => h) rfl rfl (fun w hSw => ?_) hHeld ?_
  rotate_left
  · (go_simp; try with_reducible rfl)
  try simp only [Act.put, List.setIfInBounds_toArray, List.set_cons_zero, List.set_cons_succ]
  refine take_val (v := ?_) 23 (some 28) rfl (by kernel_rfl) (by kernel_rfl) (by kernel_rfl) (fun _ _ _ h => h) rfl rfl (fun w hSw => ?_) hHeld ?_
  rotate_left
  · (go_simp; try with_reducible rfl)
  try simp only [Act.put, List.setIfInBounds_toArray, List.set_cons_zero, List.set_cons_succ]
  refine take_val (v := ?_) 26 (some 30) rfl (by kernel_rfl) (by kernel_rfl) (by kernel_rfl) (fun _ _ _ h => h) rfl rfl (fun w hSw => ?_) hHeld ?_
  rotate_left
  · (go_simp; try with_reducible rfl)
  try simp only [Act.put, List.setIfInBounds_toArray, List.set_cons_zero, List.set_cons_succ]
  refine take_val (v := ?_) 29 (some 32) rfl (by kernel_rfl) (by kernel_rfl) (by kernel_rfl) (fun _ _ _ h => h) rfl rfl (fun w hSw => ?_) hHeld ?_
  rotate_left
  · (go_simp; try with_reducible rfl)
  try simp only [Act.put, List.setIfInBounds_toArray, List.set_cons_zero, List.set_cons_succ]
  refine wpAnyH_ready (rs := [7]) (by kernel_rfl) (by simp) ?_
  refine AllReadyH.cons (o := _) rfl (fun K hK => ?_) ?_
  ·
    go_simp
    refine (S0 _ (hg.chg hHeld (by simpa using hne))).mono ?_
    rintro e ψ1 ⟨rfl, kc⟩
    go_wp2_with fail
    refine hK.out _ _ (hHeld.trans1 kc.wide) (fun hHeld => ?_)
    clear hK K
    try simp only [Act.put, List.setIfInBounds_toArray, List.set_cons_zero, List.set_cons_succ]
    replace HZ := HZ.drew.chg kc (by simp)
    clear kc
    refine wpAnyH_ready (rs := [11]) (by kernel_rfl) (by simp) ?_
    refine AllReadyH.cons (o := _) rfl (fun K hK => ?_) ?_
    ·
      go_simp
      refine (S1 _ (hg.chg hHeld (by simpa using hne))).mono ?_
      rintro e ψ2 ⟨rfl, kc⟩
      go_wp2_with fail
      refine hK.out _ _ (hHeld.trans1 kc.wide) (fun hHeld => ?_)
      clear hK K
      try simp only [Act.put, List.setIfInBounds_toArray, List.set_cons_zero, List.set_cons_succ]
      replace HZ := HZ.chg kc (by simp)
      clear kc
      refine wpAnyH_ready (rs := [15]) (by kernel_rfl) (by simp) ?_
      refine AllReadyH.cons (o := _) rfl (fun K hK => ?_) ?_
      ·
        go_simp
        refine (S2 _ (hg.chg hHeld (by simpa using hne))).mono ?_
        rintro e ψ3 ⟨rfl, kc⟩
        go_wp2_with fail
        refine hK.out _ _ (hHeld.trans1 kc.wide) (fun hHeld => ?_)
        clear hK K
        try simp only [Act.put, List.setIfInBounds_toArray, List.set_cons_zero, List.set_cons_succ]
        replace HZ := HZ.chg kc (by simp)
        clear kc
        refine wpAnyH_ready (rs := [19]) (by kernel_rfl) (by simp) ?_
        refine AllReadyH.cons (o := _) rfl (fun K hK => ?_) ?_
        ·
          go_simp
          refine (S3 _ (hg.chg hHeld (by simpa using hne))).mono ?_
          rintro e ψ4 ⟨rfl, kc⟩
          go_wp2_with fail
          refine hK.out _ _ (hHeld.trans1 kc.wide) (fun hHeld => ?_)
          clear hK K
          try simp only [Act.put, List.setIfInBounds_toArray, List.set_cons_zero, List.set_cons_succ]
          replace HZ := HZ.chg kc (by simp)
          clear kc
          refine take_val (v := ?_) 21 (some 27) rfl (by kernel_rfl) (by kernel_rfl) (by kernel_rfl) (fun _ _ _ h => h) rfl rfl (fun w hSw => ?_) hHeld ?_
          rotate_left
          · (go_simp; try with_reducible rfl)
          try simp only [Act.put, List.setIfInBounds_toArray, List.set_cons_zero, List.set_cons_succ]
          refine wpAnyH_ready (rs := [22]) (by kernel_rfl) (by simp) ?_
          refine AllReadyH.cons (o := _) rfl (fun K hK => ?_) ?_
          ·
            have ck := HZ.cell 0
            have fk := HZ.frozen 0
            simp at ck
            rw [if_pos (by rfl)]
            go_simp
            refine hK.out _ _ (hHeld.setIn (by simp) _ _) (fun hHeld => ?_)
            clear hK K
            try simp only [Act.put, List.setIfInBounds_toArray, List.set_cons_zero, List.set_cons_succ]
            replace HZ := HZ.setCell 0 (.int .u64 W0)
            simp only [List.setIfInBounds_toArray, List.set_cons_zero, List.set_cons_succ] at HZ
            clear ck fk
            generalize World.setCell ψ4 ⟨z, 0, none⟩ (.int .u64 W0) = ω1 at *
            refine take_val (v := ?_) 24 (some 29) rfl (by kernel_rfl) (by kernel_rfl) (by kernel_rfl) (fun _ _ _ h => h) rfl rfl (fun w hSw => ?_) hHeld ?_
            rotate_left
            · (go_simp; try with_reducible rfl)
            try simp only [Act.put, List.setIfInBounds_toArray, List.set_cons_zero, List.set_cons_succ]
            refine wpAnyH_ready (rs := [25]) (by kernel_rfl) (by simp) ?_
            refine AllReadyH.cons (o := _) rfl (fun K hK => ?_) ?_
            ·
              have ck := HZ.cell 1
              have fk := HZ.frozen 1
              simp at ck
              rw [if_pos (by rfl)]
              go_simp
              refine hK.out _ _ (hHeld.setIn (by simp) _ _) (fun hHeld => ?_)
              clear hK K
              try simp only [Act.put, List.setIfInBounds_toArray, List.set_cons_zero, List.set_cons_succ]
              replace HZ := HZ.setCell 1 (.int .u64 W1)
              simp only [List.setIfInBounds_toArray, List.set_cons_zero, List.set_cons_succ] at HZ
              clear ck fk
              generalize World.setCell ω1 ⟨z, 1, none⟩ (.int .u64 W1) = ω2 at *
              refine take_val (v := ?_) 27 (some 31) rfl (by kernel_rfl) (by kernel_rfl) (by kernel_rfl) (fun _ _ _ h => h) rfl rfl (fun w hSw => ?_) hHeld ?_
              rotate_left
              · (go_simp; try with_reducible rfl)
              try simp only [Act.put, List.setIfInBounds_toArray, List.set_cons_zero, List.set_cons_succ]
              refine wpAnyH_ready (rs := [28]) (by kernel_rfl) (by simp) ?_
              refine AllReadyH.cons (o := _) rfl (fun K hK => ?_) ?_
              ·
                have ck := HZ.cell 2
                have fk := HZ.frozen 2
                simp at ck
                rw [if_pos (by rfl)]
                go_simp
                refine hK.out _ _ (hHeld.setIn (by simp) _ _) (fun hHeld => ?_)
                clear hK K
                try simp only [Act.put, List.setIfInBounds_toArray, List.set_cons_zero, List.set_cons_succ]
                replace HZ := HZ.setCell 2 (.int .u64 W2)
                simp only [List.setIfInBounds_toArray, List.set_cons_zero, List.set_cons_succ] at HZ
                clear ck fk
                generalize World.setCell ω2 ⟨z, 2, none⟩ (.int .u64 W2) = ω3 at *
                refine take_val (v := ?_) 30 (some 33) rfl (by kernel_rfl) (by kernel_rfl) (by kernel_rfl) (fun _ _ _ h => h) rfl rfl (fun w hSw => ?_) hHeld ?_
                rotate_left
                · (go_simp; try with_reducible rfl)
                try simp only [Act.put, List.setIfInBounds_toArray, List.set_cons_zero, List.set_cons_succ]
                refine wpAnyH_ready (rs := [31]) (by kernel_rfl) (by simp) ?_
                refine AllReadyH.cons (o := _) rfl (fun K hK => ?_) ?_
                ·
                  have ck := HZ.cell 3
                  have fk := HZ.frozen 3
                  simp at ck
                  rw [if_pos (by rfl)]
                  go_simp
                  refine hK.out _ _ (hHeld.setIn (by simp) _ _) (fun hHeld => ?_)
                  clear hK K
                  try simp only [Act.put, List.setIfInBounds_toArray, List.set_cons_zero, List.set_cons_succ]
                  replace HZ := HZ.setCell 3 (.int .u64 W3)
                  simp only [List.setIfInBounds_toArray, List.set_cons_zero, List.set_cons_succ] at HZ
                  clear ck fk
                  generalize World.setCell ω3 ⟨z, 3, none⟩ (.int .u64 W3) = ω4 at *
                  refine wpAnyH_done (by kernel_rfl) ?_ _
                  have HN : NumAt ω4 z n := by unfold NumAt; rw [H4.out]; exact HZ
                  replace CC := hHeld
                  clear hHeld S0 S1 S2 S3 hg
                  have c0 := HZ.cell 0; have c1 := HZ.cell 1; have c2 := HZ.cell 2; have c3 := HZ.cell 3
                  simp at c0 c1 c2 c3
                  have hz4 : z < ω4.heap.size := HZ.lt
                  by_cases h3 : 1152921504606846975 < W3
                  · go_wp2_with fail
                    have A0 := NumAt.new ω4
                    have hl : w.heap.size ≤ ω4.heap.size := CC.size
                    replace HN := HN.alloc (.cells #[.int .u64 0, .int .u64 0, .int .u64 0, .int .u64 0] 248)
                    replace HZ := HZ.alloc (.cells #[.int .u64 0, .int .u64 0, .int .u64 0, .int .u64 0] 248)
                    replace CC := CC.alloc (.cells #[.int .u64 0, .int .u64 0, .int .u64 0, .int .u64 0] 248)
                    clear c0 c1 c2 c3
                    change Code.wp _ _ _ _ (ω4.alloc (.cells #[.int .u64 0, .int .u64 0, .int .u64 0, .int .u64 0] 248))
                    generalize hlz : ω4.heap.size = l at *
                    have hll : l < (ω4.alloc (.cells #[.int .u64 0, .int .u64 0, .int .u64 0, .int .u64 0] 248)).heap.size := A0.lt
                    generalize hv5 : ω4.alloc (.cells #[.int .u64 0, .int .u64 0, .int .u64 0, .int .u64 0] 248) = ω5 at *
                    clear hv5 hlz
                    refine wp_region_held_drew (S := fun w' => Chg ω5 w' []) (by kernel_rfl) ((Chg.refl ω5 _).drew) (fun hHeld => ?_)
                    refine take_val (v := ?_) 0 (some 39) rfl (by kernel_rfl) (by kernel_rfl) (by kernel_rfl) (fun _ _ _ h => h) rfl rfl (fun w hSw => ?_) hHeld ?_
                    rotate_left
                    · (go_simp; try with_reducible rfl)
                    try simp only [Act.put, List.setIfInBounds_toArray, List.set_cons_zero, List.set_cons_succ]
                    refine take_val (v := ?_) 1 (some 40) rfl (by kernel_rfl) (by kernel_rfl) (by kernel_rfl) (fun _ _ _ h => h) rfl rfl (fun w hSw => ?_) hHeld ?_
                    rotate_left
                    · (go_simp; try with_reducible rfl)
                    try simp only [Act.put, List.setIfInBounds_toArray, List.set_cons_zero, List.set_cons_succ]
                    refine take_val (v := ?_) 2 (some 41) rfl (by kernel_rfl) (by kernel_rfl) (by kernel_rfl) (fun _ _ _ h => h) rfl rfl (fun w hSw => ?_) hHeld ?_
                    rotate_left
                    · (go_simp; try with_reducible rfl)
                    try simp only [Act.put, List.setIfInBounds_toArray, List.set_cons_zero, List.set_cons_succ]
                    refine take_val (v := ?_) 3 (some 42) rfl (by kernel_rfl) (by kernel_rfl) (by kernel_rfl) (fun _ _ _ h => h) rfl rfl (fun w hSw => ?_) hHeld ?_
                    rotate_left
                    · have cx := (HZ.chg hSw (by simp)).cell 0
                      (go_simp; try with_reducible rfl)
                    try simp only [Act.put, List.setIfInBounds_toArray, List.set_cons_zero, List.set_cons_succ]
                    refine take_val (v := ?_) 4 (some 43) rfl (by kernel_rfl) (by kernel_rfl) (by kernel_rfl) (fun _ _ _ h => h) rfl rfl (fun w hSw => ?_) hHeld ?_
                    rotate_left
                    · (go_simp; try with_reducible rfl)
                    try simp only [Act.put, List.setIfInBounds_toArray, List.set_cons_zero, List.set_cons_succ]
                    refine take_val (v := ?_) 5 (some 44) rfl (by kernel_rfl) (by kernel_rfl) (by kernel_rfl) (fun _ _ _ h => h) rfl rfl (fun w hSw => ?_) hHeld ?_
                    rotate_left
                    · (go_simp; try with_reducible rfl)
                    try simp only [Act.put, List.setIfInBounds_toArray, List.set_cons_zero, List.set_cons_succ]
                    refine take_val (v := ?_) 6 (some 45) rfl (by kernel_rfl) (by kernel_rfl) (by kernel_rfl) (fun _ _ _ h => h) rfl rfl (fun w hSw => ?_) hHeld ?_
                    rotate_left
                    · (go_simp; try with_reducible rfl)
                    try simp only [Act.put, List.setIfInBounds_toArray, List.set_cons_zero, List.set_cons_succ]
                    refine take_val (v := ?_) 7 (some 46) rfl (by kernel_rfl) (by kernel_rfl) (by kernel_rfl) (fun _ _ _ h => h) rfl rfl (fun w hSw => ?_) hHeld ?_
                    rotate_left
                    · have cx := (HZ.chg hSw (by simp)).cell 1
                      (go_simp; try with_reducible rfl)
                    try simp only [Act.put, List.setIfInBounds_toArray, List.set_cons_zero, List.set_cons_succ]
                    refine take_val (v := ?_) 8 (some 47) rfl (by kernel_rfl) (by kernel_rfl) (by kernel_rfl) (fun _ _ _ h => h) rfl rfl (fun w hSw => ?_) hHeld ?_
                    rotate_left
                    · (go_simp; try with_reducible rfl)
                    try simp only [Act.put, List.setIfInBounds_toArray, List.set_cons_zero, List.set_cons_succ]
                    refine take_val (v := ?_) 9 (some 48) rfl (by kernel_rfl) (by kernel_rfl) (by kernel_rfl) (fun _ _ _ h => h) rfl rfl (fun w hSw => ?_) hHeld ?_
                    rotate_left
                    · (go_simp; try with_reducible rfl)
                    try simp only [Act.put, List.setIfInBounds_toArray, List.set_cons_zero, List.set_cons_succ]
                    refine take_val (v := ?_) 10 (some 49) rfl (by kernel_rfl) (by kernel_rfl) (by kernel_rfl) (fun _ _ _ h => h) rfl rfl (fun w hSw => ?_) hHeld ?_
                    rotate_left
                    · (go_simp; try with_reducible rfl)
                    try simp only [Act.put, List.setIfInBounds_toArray, List.set_cons_zero, List.set_cons_succ]
                    refine take_val (v := ?_) 11 (some 50) rfl (by kernel_rfl) (by kernel_rfl) (by kernel_rfl) (fun _ _ _ h => h) rfl rfl (fun w hSw => ?_) hHeld ?_
                    rotate_left
                    · have cx := (HZ.chg hSw (by simp)).cell 2
                      (go_simp; try with_reducible rfl)
                    try simp only [Act.put, List.setIfInBounds_toArray, List.set_cons_zero, List.set_cons_succ]
                    refine take_val (v := ?_) 12 (some 51) rfl (by kernel_rfl) (by kernel_rfl) (by kernel_rfl) (fun _ _ _ h => h) rfl rfl (fun w hSw => ?_) hHeld ?_
                    rotate_left
                    · (go_simp; try with_reducible rfl)
                    try simp only [Act.put, List.setIfInBounds_toArray, List.set_cons_zero, List.set_cons_succ]
                    refine take_val (v := ?_) 13 (some 52) rfl (by kernel_rfl) (by kernel_rfl) (by kernel_rfl) (fun _ _ _ h => h) rfl rfl (fun w hSw => ?_) hHeld ?_
                    rotate_left
                    · (go_simp; try with_reducible rfl)
                    try simp only [Act.put, List.setIfInBounds_toArray, List.set_cons_zero, List.set_cons_succ]
                    refine take_val (v := ?_) 14 (some 53) rfl (by kernel_rfl) (by kernel_rfl) (by kernel_rfl) (fun _ _ _ h => h) rfl rfl (fun w hSw => ?_) hHeld ?_
                    rotate_left
                    · (go_simp; try with_reducible rfl)
                    try simp only [Act.put, List.setIfInBounds_toArray, List.set_cons_zero, List.set_cons_succ]
                    refine take_val (v := ?_) 15 (some 54) rfl (by kernel_rfl) (by kernel_rfl) (by kernel_rfl) (fun _ _ _ h => h) rfl rfl (fun w hSw => ?_) hHeld ?_
                    rotate_left
                    · have cx := (HZ.chg hSw (by simp)).cell 3
                      (go_simp; try with_reducible rfl)
                    try simp only [Act.put, List.setIfInBounds_toArray, List.set_cons_zero, List.set_cons_succ]
                    refine take_val (v := ?_) 16 (some 55) rfl (by kernel_rfl) (by kernel_rfl) (by kernel_rfl) (fun _ _ _ h => h) rfl rfl (fun w hSw => ?_) hHeld ?_
                    rotate_left
                    · (go_simp; try with_reducible rfl)
                    try simp only [Act.put, List.setIfInBounds_toArray, List.set_cons_zero, List.set_cons_succ]
                    refine wpAnyH_ready (rs := [17]) (by kernel_rfl) (by simp) ?_
                    refine AllReadyH.cons (o := _) rfl (fun K hK => ?_) ?_
                    ·
                      rw [if_pos (by rfl)]
                      go_simp
                      refine hK.out _ _ (hHeld.alloc _) (fun hHeld => ?_)
                      clear hK K
                      try simp only [Act.put, List.setIfInBounds_toArray, List.set_cons_zero, List.set_cons_succ]
                      refine wpAnyH_ready (rs := [18]) (by kernel_rfl) (by simp) ?_
                      refine AllReadyH.cons (o := _) rfl (fun K hK => ?_) ?_
                      ·
                        rw [if_pos (by rfl)]
                        refine wp_store_row 262 _ _ rfl ω5.heap.size _ rfl rfl 262 _ (Blk.new ω5 #[.int .u64 0, .int .u64 0, .int .u64 0, .int .u64 0, .int .u64 0, .int .u64 0, .int .u64 0, .int .u64 0] 262).drew wideInfo rfl (by simp [Value.oneCell']) ?_
                        refine hK.out _ _ (hHeld.setRowNew (Nat.le_refl _) _) (fun hHeld => ?_)
                        clear hK K
                        try simp only [Act.put, List.setIfInBounds_toArray, List.set_cons_zero, List.set_cons_succ]
                        refine wpAnyH_done (by kernel_rfl) ?_ _
                        have HW : WideAt (((ω5.alloc (.cells #[.int .u64 0, .int .u64 0, .int .u64 0, .int .u64 0, .int .u64 0, .int .u64 0, .int .u64 0, .int .u64 0] 262)).drew).setRow ω5.heap.size #[.int .u64 W0, .int .u64 W1, .int .u64 W2, .int .u64 W3, .int .u64 0, .int .u64 0, .int .u64 0, .int .u64 0]) ω5.heap.size n := by
                          have h := ((Blk.new ω5 #[.int .u64 0, .int .u64 0, .int .u64 0, .int .u64 0, .int .u64 0, .int .u64 0, .int .u64 0, .int .u64 0] 262).drew).setRow #[.int .u64 W0, .int .u64 W1, .int .u64 W2, .int .u64 W3, .int .u64 0, .int .u64 0, .int .u64 0, .int .u64 0]
                          rw [HS.out] at h
                          rw [HS.out]
                          exact h
                        replace HN := HN.chg hHeld (by simp)
                        replace A0 := A0.chg hHeld (by simp)
                        replace CC := CC.trans1 hHeld.wide
                        clear hHeld HZ HS HL H4
                        generalize ((ω5.alloc (.cells #[.int .u64 0, .int .u64 0, .int .u64 0, .int .u64 0, .int .u64 0, .int .u64 0, .int .u64 0, .int .u64 0] 262)).drew).setRow ω5.heap.size #[.int .u64 W0, .int .u64 W1, .int .u64 W2, .int .u64 W3, .int .u64 0, .int .u64 0, .int .u64 0, .int .u64 0] = ω6 at *
                        generalize hq : ω5.heap.size = q at *
                        clear hq
                        go_wp2_with fail
                        refine (fold_any q l n rn.1 (by unfold R256 at rn; omega) (by omega) _ HW A0.an).mono ?_
                        rintro e ω7 ⟨rfl, n1, m1, k1⟩
                        replace HN := HN.chg k1 (by simp; omega)
                        replace CC := CC.trans k1 (by simp; omega)
                        clear HW A0 k1
                        have d0 := m1.c0; have d1 := m1.c1; have d2 := m1.c2; have d3 := m1.c3
                        have n2 : NumAt (ω7.alloc (.cells (wd4 (n / 7237005577332262213973186563042994240829374041602535252466099000494570602496 * 27742317777372353535851937790883648493)) 248)) ω7.heap.size (n / 7237005577332262213973186563042994240829374041602535252466099000494570602496 * 27742317777372353535851937790883648493) := Blk.new ω7 _ _
                        go_wp2_with fail
                        refine (sub_any z l ω7.heap.size _ _ lv0 lv1 _ (HN.an.alloc _) (n1.alloc _) n2).mono ?_
                        rintro e ω8 ⟨rfl, n3, k3⟩
                        rw [HLV.out] at n3
                        go_wp2_with fail
                        go_end0
                        exact ⟨rfl, n3, (CC.alloc _).trans1 (Chg.of k3)⟩
                      exact AllReadyH.nil
                    exact AllReadyH.nil
                  · have hn := HL.out (by omega)
                    go_wp2_with fail
                    go_end0
                    try rw [hn]
                    exact ⟨rfl, HN, CC⟩
                exact AllReadyH.nil
              exact AllReadyH.nil
            exact AllReadyH.nil
          exact AllReadyH.nil
        exact AllReadyH.nil
      exact AllReadyH.nil
    exact AllReadyH.nil
  exact AllReadyH.nil
end Go.Proofs.YthpfdnkcepfbaaaDoor
