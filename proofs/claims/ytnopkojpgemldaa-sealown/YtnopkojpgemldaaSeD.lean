/- seal: state.block, begun, Block. -/
import Derived.Test.YtnopkojpgemldaaSeC
set_option linter.unusedVariables false
set_option linter.unusedSimpArgs false
set_option linter.unnecessarySimpa false
namespace Go.Proofs.Ytnopkojpgemldaa
open Go.RowKit

theorem sttInfo : (Try.prog.info? 89).map (·.size) = some 16 := by kernel_rfl
theorem b64Info : (Try.prog.info? 39).map (·.size) = some 64 := by kernel_rfl
theorem keyInfo : (Try.prog.info? 23).map (·.size) = some 32 := by kernel_rfl
theorem nonInfo : (Try.prog.info? 25).map (·.size) = some 12 := by kernel_rfl
theorem zeroStt : (Try.prog.info? 89).bind (·.zero) = some (.agg (tC 16 (fun _ => 0))) := by kernel_rfl
theorem zeroB64 : (Try.prog.info? 39).bind (·.zero) = some (.agg (yC 64 (fun _ => 0))) := by kernel_rfl
/-- The block's first i numbers laid as bytes. -/
def bkI (s : Nat → Nat) (i : Nat) : Nat → Nat := fun j => if j < 4 * i then bkB s j else 0
theorem bkI_0 (s : Nat → Nat) : yC 64 (fun _ => 0) = yC 64 (bkI s 0) := yC_eq fun j _ => by unfold bkI; rw [if_neg (by omega)]
theorem bkI_end (s : Nat → Nat) : yC 64 (bkI s 16) = yC 64 (bkB s) := yC_eq fun j hj => by unfold bkI; rw [if_pos (by omega)]
theorem bkI_step (s : Nat → Nat) (i : Nat) : pu (bkI s i) (4 * i) (bkW s i) = bkI s (i + 1) := by
  funext j
  unfold pu bkI
  by_cases h : 4 * i ≤ j ∧ j < 4 * i + 4
  · rw [if_pos h, if_pos (by omega)]
    unfold bkB
    rw [show j / 4 = i by omega, show j % 4 = j - 4 * i by omega]
  · rw [if_neg h]
    by_cases h2 : j < 4 * i
    · rw [if_pos h2, if_pos (by omega)]
    · rw [if_neg h2, if_neg (by omega)]
set_option maxHeartbeats 8000000 in
set_option maxRecDepth 100000 in
theorem block_s (g : Nat) (s : Nat → Nat) (hs : V16 s) (w : World) (hb : Blk w g (tC 16 s) 89) :
    Calls Try.prog 32 #[.pointer (some ⟨g, 0, none⟩)] w fun e w' => e = .returned (.agg (yC 64 (bkB s))) ∧ Chg w w' [] := by
  have HV : Hid (∀ n, V16 (stirs s n)) := stirs_V hs
  have HS : Hid (V16 s) := hs
  clear hs
  go_enter Try.func32, Try.ntmps32
  go_wp2_with (first
    | (refine store_w BX rfl 89 _ _ (tC 16 s) rfl rfl rfl (by rw [tC_size]; exact sttInfo) (by rw [tC_size, tC_size]) (tC_one 16 _) ?_; intro w3 BX3 k3)
    | (with_reducible refine alloc_w rfl 89 rfl (.agg (tC 16 (fun _ => 0))) zeroStt (tC 16 (fun _ => 0)) rfl ?_; intro xb w2 hxb BX k2)
    | (with_reducible refine load_b (hb.chg k1 (by simp)) 89 (.tmp 7) Try.underlying89 ?_ ?_ ?_ ?_ ?_ ?_
       · rfl
       · rfl
       · rfl
       · rfl
       · (rw [tC_size]; exact sttInfo))
    | (with_reducible refine alloc_w rfl 39 rfl (.agg (yC 64 (fun _ => 0))) zeroB64 (yC 64 (fun _ => 0)) rfl ?_; intro rb w1 hrb BR k1))
  have HN : Hid (g < w.heap.size ∧ w.heap.size ≤ rb ∧ rb < xb ∧ xb < w3.heap.size) := ⟨hb.lt, hrb, Nat.lt_of_lt_of_le BR.lt hxb, BX3.lt⟩
  have BR3 := (BR.chg k2 (by simp)).chg k3 (by have := HN.out; simp; omega)
  have K3 : Chg w w3 [] := (k1.trans1 k2).new k3 (by have := HN.out; omega)
  have hb3 := hb.chg K3 (by simp)
  clear k1 k2 k3 BR BX hrb hxb hb
  go_loopw [9] (fun t wr => ∃ i : Nat, i ≤ 10 ∧ t = .int .i64 (i : Int) ∧ Blk wr xb (tC 16 (stirs s i)) 89 ∧ Chg w3 wr [xb]) (fun t _ => (10 - intOf t).toNat)
  case atStart => exact ⟨0, by omega, rfl, BX3, Chg.refl _ _⟩
  case round =>
    obtain ⟨i, hi, rfl, b0, c0⟩ := hrel
    by_cases h8 : i < 10
    · have hI : (i : Int) < 10 := by omega
      have e1 : IntKind.i64.wrap ((i : Int) + 1) = (i : Int) + 1 := by rw [IntKind.wrap_i64]; omega
      go_wp2_with fail
      refine (stir_s xb (stirs s i) (HV.out i) wr b0).mono ?_
      rintro e v1 ⟨rfl, b1, k1⟩
      go_wp2_with fail
      exact ⟨⟨i + 1, by omega, by go_num, b1, c0.trans1 k1⟩, by simp [intOf]; omega⟩
    · obtain rfl : i = 10 := by omega
      have BR4 := BR3.chg c0 (by have := HN.out; simp; omega)
      have hb4 := hb3.chg c0 (by have := HN.out; simp; omega)
      have K4 : Chg w wr [] := K3.new c0 (by have := HN.out; omega)
      have HL : Hid (xb < wr.heap.size ∧ rb < wr.heap.size) := ⟨b0.lt, BR4.lt⟩
      clear BR3 hb3 K3 c0 h8 hi BX3
      go_wp2_with (with_reducible refine alloc_w rfl 39 rfl (.agg (yC 64 (fun _ => 0))) zeroB64 (yC 64 (fun _ => 0)) rfl ?_; intro ob w5 hob BO k5)
      have HO : Hid (ob ≠ xb ∧ ob ≠ rb ∧ ob ≠ g ∧ w.heap.size ≤ ob) := ⟨by have := HL.out; omega, by have := HL.out; omega, by have := HL.out; have := HN.out; have := K4.size; omega, by have := K4.size; omega⟩
      have BR5 := BR4.chg k5 (by simp)
      have BX5 := b0.chg k5 (by simp)
      have hb5 := hb4.chg k5 (by simp)
      have K5 : Chg w w5 [] := K4.trans1 k5
      rw [bkI_0 s] at BO
      clear BR4 b0 hb4 k5 K4 hob
      go_loopw [13] (fun t wr => ∃ i : Nat, i ≤ 16 ∧ t = .int .i64 (i : Int) ∧ Blk wr ob (yC 64 (bkI s i)) 39 ∧ Chg w5 wr [ob]) (fun t _ => (16 - intOf t).toNat)
      case atStart => exact ⟨0, by omega, rfl, BO, Chg.refl _ _⟩
      case round =>
        obtain ⟨i, hi, rfl, b0, c0⟩ := hrel
        by_cases h8 : i < 16
        · have hI : (i : Int) < 16 := by omega
          have e1 : IntKind.i64.wrap ((i : Int) + 1) = (i : Int) + 1 := by rw [IntKind.wrap_i64]; omega
          obtain ⟨m, hm⟩ : ∃ m, 4 * i = m := ⟨_, rfl⟩
          have e4 : IntKind.i64.wrap (4 * (i : Int)) = (m : Int) := by rw [IntKind.wrap_i64]; omega
          have hm1 : (m : Int) ≤ 64 := by omega
          have hm2 : Hid (m + 4 ≤ 64 ∧ 4 ≤ 64 - m) := ⟨by omega, by omega⟩
          have BX6 := BX5.chg c0 (by have := HO.out; simp; omega)
          have hb6 := hb5.chg c0 (by have := HO.out; simp; omega)
          obtain ⟨A, hA⟩ : ∃ A, stirs s 10 i = A := ⟨_, rfl⟩
          obtain ⟨D, hD⟩ : ∃ D, s i = D := ⟨_, rfl⟩
          obtain ⟨R, hR⟩ : ∃ R, bkW s i = R := ⟨_, rfl⟩
          have eR : IntKind.u32.wrap ((A : Int) + (D : Int)) = (R : Int) := by rw [w32, ← hR, ← hA, ← hD]; rfl
          have HR : Hid (V R ∧ pu (bkI s i) m R = bkI s (i + 1)) := ⟨by rw [← hR]; exact modV _, by rw [← hR, ← hm]; exact bkI_step s i⟩
          have HC : Hid (tC 16 (stirs s 10) = tC 16 (stirs s 10) ∧ (tC 16 (stirs s 10))[i]? = some (.int .u32 (A : Int)) ∧ (tC 16 s)[i]? = some (.int .u32 (D : Int))) := ⟨rfl, by rw [← hA]; exact tC_get 16 _ i h8, by rw [← hD]; exact tC_get 16 _ i h8⟩
          clear hA hD hR hm
          go_wp2_with fail
          have bk0 := b0.drew
          have ck0 := c0.drew
          have hHeld : Blk wr.drew xb (tC 16 (stirs s 10)) 89 ∧ Blk wr.drew g (tC 16 s) 89 := ⟨BX6.drew, hb6.drew⟩
          clear BX6 hb6
          refine lt_begin (fun w' => Blk w' xb (tC 16 (stirs s 10)) 89 ∧ Blk w' g (tC 16 s) 89) (fun n => false) (by kernel_rfl) ?_
          obtain ⟨z0, hz⟩ : ∃ z, z = wr.drew := ⟨_, rfl⟩
          rw [← hz] at bk0 ck0 hHeld ⊢
          clear hz
          refine lt_val (v := ?_) 0 (some 16) rfl (by kernel_rfl) (by kernel_rfl) (by kernel_rfl) (fun _ _ _ h => h) rfl rfl (fun w => ?_) ?_
          rotate_left
          · (go_simp; try with_reducible rfl)
          try simp only [Act.put, List.setIfInBounds_toArray, List.set_cons_zero, List.set_cons_succ]
          refine lt_val (v := ?_) 1 (some 17) rfl (by kernel_rfl) (by kernel_rfl) (by kernel_rfl) (fun _ _ _ h => h) rfl rfl (fun w => ?_) ?_
          rotate_left
          · (go_simp; try with_reducible rfl)
          try simp only [Act.put, List.setIfInBounds_toArray, List.set_cons_zero, List.set_cons_succ]
          refine lt_val (v := (.slice (some ⟨ob, m, none⟩) (64 - m) (64 - m))) 2 (some 18) rfl (by kernel_rfl) (by kernel_rfl) (by kernel_rfl) (fun _ _ _ h => h) rfl rfl (fun w => ?_) ?_
          · (go_simp; intro q; have := hm2.out.1; omega)
          try simp only [Act.put, List.setIfInBounds_toArray, List.set_cons_zero, List.set_cons_succ]
          refine lt_val (v := ?_) 3 (some 19) rfl (by kernel_rfl) (by kernel_rfl) (by kernel_rfl) (fun _ _ _ h => h) rfl rfl (fun w => ?_) ?_
          rotate_left
          · (go_simp; try with_reducible rfl)
          try simp only [Act.put, List.setIfInBounds_toArray, List.set_cons_zero, List.set_cons_succ]
          refine lt_val (v := ?_) 4 (some 20) rfl (by kernel_rfl) (by kernel_rfl) (by kernel_rfl) (fun _ _ _ h => h) rfl rfl (fun w => ?_) ?_
          rotate_left
          · (go_simp; try with_reducible rfl)
          try simp only [Act.put, List.setIfInBounds_toArray, List.set_cons_zero, List.set_cons_succ]
          refine lt_read (v := ?_) 5 (some 21) rfl (by kernel_rfl) (by kernel_rfl) (by kernel_rfl) (by kernel_rfl) (fun _ _ _ h => h) rfl rfl (fun w hSw => ?_) hHeld ?_
          rotate_left
          · (have qa := (hSw.1.cell i).trans HC.out.2.1; have qb := (hSw.2.cell i).trans HC.out.2.2); (go_simp; try with_reducible rfl)
          try simp only [Act.put, List.setIfInBounds_toArray, List.set_cons_zero, List.set_cons_succ]
          refine lt_val (v := ?_) 6 (some 22) rfl (by kernel_rfl) (by kernel_rfl) (by kernel_rfl) (fun _ _ _ h => h) rfl rfl (fun w => ?_) ?_
          rotate_left
          · (go_simp; try with_reducible rfl)
          try simp only [Act.put, List.setIfInBounds_toArray, List.set_cons_zero, List.set_cons_succ]
          refine lt_val (v := ?_) 7 (some 23) rfl (by kernel_rfl) (by kernel_rfl) (by kernel_rfl) (fun _ _ _ h => h) rfl rfl (fun w => ?_) ?_
          rotate_left
          · (go_simp; try with_reducible rfl)
          try simp only [Act.put, List.setIfInBounds_toArray, List.set_cons_zero, List.set_cons_succ]
          refine lt_val (v := ?_) 8 (some 24) rfl (by kernel_rfl) (by kernel_rfl) (by kernel_rfl) (fun _ _ _ h => h) rfl rfl (fun w => ?_) ?_
          rotate_left
          · (go_simp; try with_reducible rfl)
          try simp only [Act.put, List.setIfInBounds_toArray, List.set_cons_zero, List.set_cons_succ]
          refine lt_val (v := ?_) 9 (some 25) rfl (by kernel_rfl) (by kernel_rfl) (by kernel_rfl) (fun _ _ _ h => h) rfl rfl (fun w => ?_) ?_
          rotate_left
          · (go_simp; try with_reducible rfl)
          try simp only [Act.put, List.setIfInBounds_toArray, List.set_cons_zero, List.set_cons_succ]
          refine lt_read (v := ?_) 10 (some 26) rfl (by kernel_rfl) (by kernel_rfl) (by kernel_rfl) (by kernel_rfl) (fun _ _ _ h => h) rfl rfl (fun w hSw => ?_) hHeld ?_
          rotate_left
          · (have qa := (hSw.1.cell i).trans HC.out.2.1; have qb := (hSw.2.cell i).trans HC.out.2.2); (go_simp; try with_reducible rfl)
          try simp only [Act.put, List.setIfInBounds_toArray, List.set_cons_zero, List.set_cons_succ]
          refine lt_val (v := ?_) 11 (some 27) rfl (by kernel_rfl) (by kernel_rfl) (by kernel_rfl) (fun _ _ _ h => h) rfl rfl (fun w => ?_) ?_
          rotate_left
          · (go_simp; try with_reducible rfl)
          try simp only [Act.put, List.setIfInBounds_toArray, List.set_cons_zero, List.set_cons_succ]
          refine lt_one 12 rfl (by kernel_rfl) rfl (fun K hK => ?_)
          go_simp
          refine (putWord4_s ob m (64 - m) (64 - m) 64 (bkI s i) R 39 z0 hm2.out.2 HR.out.1 hm2.out.1 bk0).mono ?_
          rintro e v1 ⟨rfl, b1, k1⟩
          go_wp2_with fail
          refine hK.out _ _ (fun _ h => ⟨h.1.chg k1 (by have := HO.out; simp; omega), h.2.chg k1 (by have := HO.out; simp; omega)⟩) ?_
          clear hK K
          try simp only [Act.put, List.setIfInBounds_toArray, List.set_cons_zero, List.set_cons_succ]
          refine lt_done (by kernel_rfl) ?_ _
          rw [HR.out.2] at b1
          go_wp2_with fail
          exact ⟨⟨i + 1, by omega, by go_num, b1, ck0.trans1 k1⟩, by simp [intOf, e1]; omega⟩
        · obtain rfl : i = 16 := by omega
          rw [bkI_end] at b0
          have BR6 := BR5.chg c0 (by have := HO.out; simp; omega)
          have K6 : Chg w wr [] := K5.new c0 HO.out.2.2.2
          clear BR5 K5 c0
          go_wp2_with (first
            | (refine store_w BR6 rfl 39 _ _ (yC 64 (bkB s)) rfl rfl rfl (by rw [yC_size]; exact b64Info) (by rw [yC_size, yC_size]) (yC_one 64 _) ?_; intro w7 BR7 k7)
            | (with_reducible refine load_b b0 39 (.tmp 4) Try.underlying39 ?_ ?_ ?_ ?_ ?_ ?_
               · rfl
               · rfl
               · rfl
               · rfl
               · (rw [yC_size]; exact b64Info)))
          have C : Chg w w7 [] := K6.new k7 HN.out.2.1
          exact bodyPost_ret (results_cell_row Try.results32 _ _ rb 39 (yC 64 (bkB s)) (0, 0) _ rfl BR7 Try.underlying39 rfl (by rw [yC_size]; exact b64Info)) rfl ⟨rfl, C⟩
theorem w_drewN (w : World) (m : Nat) : Chg w (w.drewN m) [] := (Chg.refl w []).drewN m
/-- The state with the first i of the key's numbers. -/
def kI (k : Nat → Nat) (ct i : Nat) : Nat → Nat := fun j => if 4 ≤ j ∧ j < 4 + i then le4 (fun x => k (4 * (j - 4) + x)) else if j < 4 then st0 k ct k j else if j = 12 then ct else 0
def nI (k : Nat → Nat) (ct : Nat) (n : Nat → Nat) (i : Nat) : Nat → Nat := fun j => if 13 ≤ j ∧ 13 + i ≤ j then 0 else st0 k ct n j
theorem kI_step (k : Nat → Nat) (ct i : Nat) : up (kI k ct i) (4 + i) (le4 (fun x => k (4 * i + x))) = kI k ct (i + 1) := by
  funext j
  unfold up kI
  by_cases h : j = 4 + i
  · subst h
    rw [if_pos rfl, if_pos (by omega), Nat.add_sub_cancel_left]
  · rw [if_neg h]
    by_cases h2 : 4 ≤ j ∧ j < 4 + i
    · rw [if_pos h2, if_pos (by omega)]
    · rw [if_neg h2, if_neg (by omega : ¬ (4 ≤ j ∧ j < 4 + (i + 1)))]
theorem nI_step (k : Nat → Nat) (ct : Nat) (n : Nat → Nat) (i : Nat) : up (nI k ct n i) (13 + i) (le4 (fun x => n (4 * i + x))) = nI k ct n (i + 1) := by
  funext j
  unfold up nI
  by_cases h : j = 13 + i
  · subst h
    rw [if_pos rfl, if_neg (by omega)]
    unfold st0
    rw [if_neg (by omega), if_neg (by omega), if_neg (by omega), Nat.add_sub_cancel_left]
  · rw [if_neg h]
    by_cases h2 : 13 ≤ j ∧ 13 + i ≤ j
    · rw [if_pos h2, if_pos (by omega)]
    · rw [if_neg h2, if_neg (by omega)]
theorem kI_end (k : Nat → Nat) (ct : Nat) (n : Nat → Nat) : tC 16 (kI k ct 8) = tC 16 (nI k ct n 0) := tC_eq fun j hj => by
  unfold kI nI
  by_cases h : 4 ≤ j ∧ j < 4 + 8
  · rw [if_pos h, if_neg (by omega)]
    unfold st0
    rw [if_neg (by omega), if_pos (by omega)]
  · rw [if_neg h]
    by_cases h2 : j < 4
    · rw [if_pos h2, if_neg (by omega)]
      unfold st0
      rw [if_pos h2, if_pos h2]
    · rw [if_neg h2]
      by_cases h3 : j = 12
      · rw [if_pos h3, if_neg (by omega)]
        unfold st0
        rw [if_neg (by omega), if_neg (by omega), if_pos h3]
      · rw [if_neg h3, if_pos (by omega)]
theorem nI_end (k : Nat → Nat) (ct : Nat) (n : Nat → Nat) : tC 16 (nI k ct n 3) = tC 16 (st0 k ct n) := tC_eq fun j hj => by
  unfold nI; rw [if_neg (by omega)]
theorem builtS (k : Nat → Nat) (ct : Nat) : Try.prog.built 89 [(0, .int .u32 1634760805), (1, .int .u32 857760878), (2, .int .u32 2036477234), (3, .int .u32 1797285236), (12, .int .u32 (ct : Int))] = some (tC 16 (kI k ct 0)) := by kernel_rfl


theorem wpList_build_c5 {P : Program} {ops : Array Oper} {rest : List Oper} {o : Oper} {a : Act} {w : World} {Q : Exit → Act → World → Prop} (hg : o.guard = none) (t : TypeId) (parts : Array (Nat × Operand)) (ho : o.op = .build t parts)
    (cells : Array Value) (hb : P.built t (parts.map fun (i, x) => (i, a.eval x)).toList = some cells) (h : wpList P ops Q rest (a.put o.dst (.agg cells)) w) : wpList P ops Q (o :: rest) a w :=
  wpList_build hg t parts ho (by rw [hb]; rfl) (by rw [hb]; exact h)
set_option maxHeartbeats 8000000 in
set_option maxRecDepth 100000 in
theorem begun_s (k : Nat → Nat) (ct : Nat) (n : Nat → Nat) (hk : ∀ i, i < 32 → k i < 256) (hn : ∀ i, i < 12 → n i < 256) (w : World) :
    Calls Try.prog 31 #[.agg (yC 32 k), .int .u32 (ct : Int), .agg (yC 12 n)] w fun e w' => e = .returned (.agg (tC 16 (st0 k ct n))) ∧ Chg w w' [] := by
  have HK : Hid (∀ i, i < 32 → k i < 256) := hk
  have HN : Hid (∀ i, i < 12 → n i < 256) := hn
  clear hk hn
  go_enter Try.func31, Try.ntmps31
  go_wp2_with (first
    | (refine store_w BS rfl 89 _ _ (tC 16 (kI k ct 0)) rfl rfl rfl (by rw [tC_size]; exact sttInfo) (by rw [tC_size, tC_size]) (tC_one 16 _) ?_; intro w5 BS5 k5)
    | (refine wpList_build_c5 rfl 89 _ rfl (tC 16 (kI k ct 0)) (builtS k ct) ?_)
    | (have _h := BR; with_reducible refine alloc_w rfl 89 rfl (.agg (tC 16 (fun _ => 0))) zeroStt (tC 16 (fun _ => 0)) rfl ?_; intro sb w4 hsb BS k4)
    | (with_reducible refine alloc_w rfl 89 rfl (.agg (tC 16 (fun _ => 0))) zeroStt (tC 16 (fun _ => 0)) rfl ?_; intro rb w3 hrb BR k3)
    | (refine box_w rfl 25 _ rfl (yC 12 n) rfl ?_; intro nb w2 hnb BN k2)
    | (refine box_w rfl 23 _ rfl (yC 32 k) rfl ?_; intro kb w1 hkb BK k1))
  have HO : Hid ((w.heap.size ≤ kb ∧ kb < nb ∧ nb < rb ∧ rb < sb) ∧ sb < w5.heap.size) := ⟨⟨hkb, Nat.lt_of_lt_of_le BK.lt hnb, Nat.lt_of_lt_of_le BN.lt hrb, Nat.lt_of_lt_of_le BR.lt hsb⟩, BS5.lt⟩
  have BK5 := (((BK.chg k2 (by simp)).chg k3 (by simp)).chg k4 (by simp)).chg k5 (by have := HO.out; simp; omega)
  have BN5 := (((BN.chg k3 (by simp)).chg k4 (by simp))).chg k5 (by have := HO.out; simp; omega)
  have BR5 := (BR.chg k4 (by simp)).chg k5 (by have := HO.out; simp; omega)
  have K5 : Chg w w5 [] := (((k1.trans1 k2).trans1 k3).trans1 k4).new k5 (by have := HO.out; omega)
  clear BK BN BR BS k1 k2 k3 k4 k5 hkb hnb hrb hsb
  go_loopw [12] (fun t wr => ∃ i : Nat, i ≤ 8 ∧ t = .int .i64 (i : Int) ∧ Blk wr sb (tC 16 (kI k ct i)) 89 ∧ Chg w5 wr [sb]) (fun t _ => (8 - intOf t).toNat)
  case atStart => exact ⟨0, by omega, rfl, BS5, Chg.refl _ _⟩
  case round =>
    obtain ⟨i, hi, rfl, b0, c0⟩ := hrel
    by_cases h8 : i < 8
    · have hI : (i : Int) < 8 := by omega
      have e1 : IntKind.i64.wrap ((i : Int) + 1) = (i : Int) + 1 := by rw [IntKind.wrap_i64]; omega
      obtain ⟨m, hm⟩ : ∃ m, 4 * i = m := ⟨_, rfl⟩
      obtain ⟨p, hp⟩ : ∃ p, 4 + i = p := ⟨_, rfl⟩
      have e4 : IntKind.i64.wrap (4 * (i : Int)) = (m : Int) := by rw [IntKind.wrap_i64]; omega
      have e5 : IntKind.i64.wrap (4 + (i : Int)) = (p : Int) := by rw [IntKind.wrap_i64]; omega
      have hm1 : (m : Int) ≤ 32 := by omega
      have hm3 : ¬ 32 = m := by omega
      have hp1 : (p : Int) < 16 := by omega
      have hm2 : Hid (m + 4 ≤ 32 ∧ 4 ≤ 32 - m ∧ p < 16) := ⟨by omega, by omega, by omega⟩
      have HS : Hid (up (kI k ct i) p (le4 (fun x => k (m + x))) = kI k ct (i + 1)) := by rw [← hm, ← hp]; exact kI_step k ct i
      have B6 := BK5.chg c0 (by have := HO.out; simp; omega)
      clear hm hp
      go_wp2_with fail
      refine (word4_s kb m (32 - m) (32 - m) (fun x => k (m + x)) wr hm2.out.2.1 (fun x hx => HK.out _ (by have := hm2.out; omega)) (fun x hx => by rw [B6.cell, yC_get _ _ _ (by have := hm2.out; omega)])).mono ?_
      rintro e v1 ⟨rfl, mm, rfl⟩
      obtain ⟨z1, hz⟩ : ∃ z, z = wr.drewN mm := ⟨_, rfl⟩
      have bk := b0.drewN mm
      have ck := c0.drewN mm
      rw [← hz] at bk ck ⊢
      clear hz b0 c0 B6
      obtain ⟨L, hL⟩ : ∃ L, le4 (fun x => k (m + x)) = L := ⟨_, rfl⟩
      rw [hL] at HS ⊢
      clear hL
      have cx := (bk.cell p).trans (tC_get 16 _ p hm2.out.2.2)
      have fx := bk.frozen p
      have b2 := (bk.setCell p (.int .u32 (L : Nat))).to ((tC_set 16 _ p L).trans (congrArg (tC 16) HS.out))
      have c2 := ck.setIn (k := sb) (by simp) p (.int .u32 (L : Nat))
      go_wp2_with fail
      exact ⟨⟨i + 1, by omega, by go_num, b2, c2⟩, by simp [intOf]; omega⟩
    · obtain rfl : i = 8 := by omega
      rw [kI_end k ct n] at b0
      have BN6 := BN5.chg c0 (by have := HO.out; simp; omega)
      have BR6 := BR5.chg c0 (by have := HO.out; simp; omega)
      have K6 : Chg w wr [] := K5.new c0 (by have := HO.out; omega)
      clear BK5 BN5 BR5 K5 c0 BS5
      obtain ⟨w6, rfl⟩ : ∃ z, z = wr := ⟨wr, rfl⟩
      go_wp2_with fail
      go_loopw [23] (fun t wr => ∃ i : Nat, i ≤ 3 ∧ t = .int .i64 (i : Int) ∧ Blk wr sb (tC 16 (nI k ct n i)) 89 ∧ Chg w6 wr [sb]) (fun t _ => (3 - intOf t).toNat)
      case atStart => exact ⟨0, by omega, rfl, b0, Chg.refl _ _⟩
      case round =>
        clear b0 hi h8
        obtain ⟨i, hi, rfl, b0, c0⟩ := hrel
        by_cases h8 : i < 3
        · have hI : (i : Int) < 3 := by omega
          have e1 : IntKind.i64.wrap ((i : Int) + 1) = (i : Int) + 1 := by rw [IntKind.wrap_i64]; omega
          obtain ⟨m, hm⟩ : ∃ m, 4 * i = m := ⟨_, rfl⟩
          obtain ⟨p, hp⟩ : ∃ p, 13 + i = p := ⟨_, rfl⟩
          have e4 : IntKind.i64.wrap (4 * (i : Int)) = (m : Int) := by rw [IntKind.wrap_i64]; omega
          have e5 : IntKind.i64.wrap (13 + (i : Int)) = (p : Int) := by rw [IntKind.wrap_i64]; omega
          have hm1 : (m : Int) ≤ 12 := by omega
          have hm3 : ¬ 12 = m := by omega
          have hp1 : (p : Int) < 16 := by omega
          have hm2 : Hid (m + 4 ≤ 12 ∧ 4 ≤ 12 - m ∧ p < 16) := ⟨by omega, by omega, by omega⟩
          have HS : Hid (up (nI k ct n i) p (le4 (fun x => n (m + x))) = nI k ct n (i + 1)) := by rw [← hm, ← hp]; exact nI_step k ct n i
          have B6 := BN6.chg c0 (by have := HO.out; simp; omega)
          clear hm hp
          go_wp2_with fail
          refine (word4_s nb m (12 - m) (12 - m) (fun x => n (m + x)) wr hm2.out.2.1 (fun x hx => HN.out _ (by have := hm2.out; omega)) (fun x hx => by rw [B6.cell, yC_get _ _ _ (by have := hm2.out; omega)])).mono ?_
          rintro e v1 ⟨rfl, mm, rfl⟩
          obtain ⟨z1, hz⟩ : ∃ z, z = wr.drewN mm := ⟨_, rfl⟩
          have bk := b0.drewN mm
          have ck := c0.drewN mm
          rw [← hz] at bk ck ⊢
          clear hz b0 c0 B6
          obtain ⟨L, hL⟩ : ∃ L, le4 (fun x => n (m + x)) = L := ⟨_, rfl⟩
          rw [hL] at HS ⊢
          clear hL
          have cx := (bk.cell p).trans (tC_get 16 _ p hm2.out.2.2)
          have fx := bk.frozen p
          have b2 := (bk.setCell p (.int .u32 (L : Nat))).to ((tC_set 16 _ p L).trans (congrArg (tC 16) HS.out))
          have c2 := ck.setIn (k := sb) (by simp) p (.int .u32 (L : Nat))
          go_wp2_with fail
          exact ⟨⟨_, _, _, _, _, _, _, _, _, _, _, _, ⟨i + 1, by omega, by go_num, b2, c2⟩, rfl⟩, by simp [intOf]; omega⟩
        · obtain rfl : i = 3 := by omega
          rw [nI_end] at b0
          have BR7 := BR6.chg c0 (by have := HO.out; simp; omega)
          have K7 : Chg w wr [] := K6.new c0 (by have := HO.out; omega)
          clear BN6 BR6 K6 c0
          go_wp2_with (first
            | (refine store_w BR7 rfl 89 _ _ (tC 16 (st0 k ct n)) rfl rfl rfl (by rw [tC_size]; exact sttInfo) (by rw [tC_size, tC_size]) (tC_one 16 _) ?_; intro w8 BR8 k8)
            | (with_reducible refine load_b b0 89 (.tmp 7) Try.underlying89 ?_ ?_ ?_ ?_ ?_ ?_
               · rfl
               · rfl
               · rfl
               · rfl
               · (rw [tC_size]; exact sttInfo)))
          have C : Chg w w8 [] := K7.new k8 (by have := HO.out; omega)
          exact bodyPost_ret (results_cell_row Try.results31 _ _ rb 89 (tC 16 (st0 k ct n)) (0, 0) _ rfl BR8 Try.underlying89 rfl (by rw [tC_size]; exact sttInfo)) rfl ⟨rfl, C⟩
set_option maxHeartbeats 8000000 in
set_option maxRecDepth 100000 in
theorem Block_s (k : Nat → Nat) (ct : Nat) (n : Nat → Nat) (hk : ∀ i, i < 32 → k i < 256) (hn : ∀ i, i < 12 → n i < 256) (hc : V ct) (w : World) :
    Calls Try.prog 15 #[.agg (yC 32 k), .int .u32 (ct : Int), .agg (yC 12 n)] w fun e w' => e = .returned (.agg (yC 64 (bkB (st0 k ct n)))) ∧ Chg w w' [] := by
  have HV : Hid (V16 (st0 k ct n)) := st0_V hk hn hc
  have HB : Hid (∀ w, Calls Try.prog 31 #[.agg (yC 32 k), .int .u32 (ct : Int), .agg (yC 12 n)] w fun e w' => e = .returned (.agg (tC 16 (st0 k ct n))) ∧ Chg w w' []) := begun_s k ct n hk hn
  obtain ⟨X, hX⟩ : ∃ X, st0 k ct n = X := ⟨_, rfl⟩
  rw [hX] at HV HB ⊢
  clear hk hn hc hX
  go_enter Try.func15, Try.ntmps15
  go_wp2_with (first
    | (with_reducible refine load_b (BN.chg k3 (by simp)) 25 (.tmp 5) Try.underlying25 ?_ ?_ ?_ ?_ ?_ ?_
       · rfl
       · rfl
       · rfl
       · rfl
       · (rw [yC_size]; exact nonInfo))
    | (with_reducible refine load_b ((BK.chg k2 (by simp)).chg k3 (by simp)) 23 (.tmp 3) Try.underlying23 ?_ ?_ ?_ ?_ ?_ ?_
       · rfl
       · rfl
       · rfl
       · rfl
       · (rw [yC_size]; exact keyInfo))
    | (with_reducible refine alloc_w rfl 39 rfl (.agg (yC 64 (fun _ => 0))) zeroB64 (yC 64 (fun _ => 0)) rfl ?_; intro rb w3 hrb BR k3)
    | (refine box_w rfl 25 _ rfl (yC 12 n) rfl ?_; intro nb w2 hnb BN k2)
    | (refine box_w rfl 23 _ rfl (yC 32 k) rfl ?_; intro kb w1 hkb BK k1))
  refine (HB.out w3).mono ?_
  rintro e w4 ⟨rfl, k4⟩
  have BR4 := BR.chg k4 (by simp)
  have K4 : Chg w w4 [] := ((k1.trans1 k2).trans1 k3).trans1 k4
  have HR : Hid (w.heap.size ≤ rb ∧ rb < w4.heap.size) := ⟨by have := (k1.trans1 k2).size; omega, BR4.lt⟩
  clear BK BN BR k1 k2 k3 k4 hkb hnb hrb
  go_wp2_with (first
    | (refine store_w BS rfl 89 _ _ (tC 16 X) rfl rfl rfl (by rw [tC_size]; exact sttInfo) (by rw [tC_size, tC_size]) (tC_one 16 _) ?_; intro w6 BS6 k6)
    | (with_reducible refine alloc_w rfl 89 rfl (.agg (tC 16 (fun _ => 0))) zeroStt (tC 16 (fun _ => 0)) rfl ?_; intro sb w5 hsb BS k5))
  have BR6 := (BR4.chg k5 (by simp)).chg k6 (by have := HR.out; simp; omega)
  have K6 : Chg w w6 [] := (K4.trans1 k5).new k6 (by have := K4.size; omega)
  clear BR4 K4 k5 k6 BS hsb
  refine (block_s sb X HV.out w6 BS6).mono ?_
  rintro e w7 ⟨rfl, k7⟩
  have BR7 := BR6.chg k7 (by simp)
  have K7 := K6.trans1 k7
  clear BR6 K6 k7 BS6
  go_wp2_with (refine store_w BR7 rfl 39 _ _ (yC 64 (bkB X)) rfl rfl rfl (by rw [yC_size]; exact b64Info) (by rw [yC_size, yC_size]) (yC_one 64 _) ?_; intro w8 BR8 k8)
  have C : Chg w w8 [] := K7.new k8 HR.out.1
  exact bodyPost_ret (results_cell_row Try.results15 _ _ rb 39 (yC 64 (bkB X)) (0, 0) _ rfl BR8 Try.underlying39 rfl (by rw [yC_size]; exact b64Info)) rfl ⟨rfl, C⟩
end Go.Proofs.Ytnopkojpgemldaa
