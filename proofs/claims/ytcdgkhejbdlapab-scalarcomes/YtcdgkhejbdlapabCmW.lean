/- ScalarComes: the walk. -/
import Derived.Test.YtcdgkhejbdlapabCmW2
set_option linter.unusedVariables false
set_option linter.unusedSimpArgs false
set_option linter.unnecessarySimpa false
namespace Go.Proofs.Ytcdgkhejbdlapab
open Go.RowKit N

theorem i64_and7 (n : Int) : bits .and .i64 n 7 = n % 8 := by
  have h1 : (BitVec.ofInt 64 7).toNat = 2 ^ 3 - 1 := by decide
  have key : (BitVec.ofInt 64 n &&& BitVec.ofInt 64 7).toNat = (n % ((2 ^ 64 : Nat) : Int)).toNat % 2 ^ 3 := by
    rw [BitVec.toNat_and, BitVec.toNat_ofInt, h1, Nat.and_two_pow_sub_one_eq_mod]
  show IntKind.i64.wrap ((BitVec.ofInt 64 n &&& BitVec.ofInt 64 7).toNat : Nat) = n % 8
  rw [key, IntKind.wrap_i64]
  omega
theorem mod8 (wd : Int) : ∃ k : Nat, wd % 8 = (k : Int) ∧ k ≤ 7 := ⟨(wd % 8).toNat, by omega, by omega⟩
theorem dn_bd (q n i : Nat) (hq : 2 ≤ q) (hq8 : q ≤ 8) : -1000 ≤ dn q n i ∧ dn q n i ≤ 1000 := by
  by_cases h : dn q n i = 0
  · rw [h]; decide
  · obtain ⟨_, h1, h2, _⟩ := dn_odd q n i hq h
    have hp : 2 ^ (q - 1) ≤ 128 := Nat.pow_le_pow_right (n := 2) (by decide) (show q - 1 ≤ 7 by omega)
    generalize 2 ^ (q - 1) = Q at *
    omega
theorem dd_bd' (n i : Nat) : -1000 ≤ dd n i ∧ dd n i ≤ 1000 := by
  have h1 := win4 n i
  have h2 := dc_le n i
  have h3 := dc_le n (i + 1)
  unfold dd
  generalize win n (4 * i) 4 = W at *
  generalize dc n i = c at *
  generalize dc n (i + 1) = d at *
  split <;> omega
theorem val_c (m : Nat) : ∃ n : Nat, (m : Int) % L = (n : Int) ∧ n < 14474011154664524427946373126085988481658748083205070504932198000989141204992 := by
  refine ⟨m % LN, by rw [← LN_eq, Int.natCast_emod], Nat.lt_of_lt_of_le (Nat.mod_lt _ (by decide)) (by decide)⟩
theorem low_c (m n : Nat) (h : (m : Int) % L = (n : Int)) : ad (m : Int) 0 = (n : Int) := by unfold ad; rw [Int.add_zero, h]
theorem mod_n (n : Nat) (x : Int) (m : Nat) (h : (m : Int) % L = (n : Int)) (hx : x = (n : Int)) : x % L = (n : Int) := by rw [hx, ← h]; exact Int.emod_emod_of_dvd _ (Int.dvd_refl L)
theorem m64c (i : Nat) (h : i < 64) : (64 - intOf (.int .i64 ((i : Int) + 1))).toNat < (64 - intOf (.int .i64 (i : Int))).toNat := by simp [intOf]; omega
attribute [local irreducible] dd dn iC ad sg
set_option maxHeartbeats 16000000 in
set_option maxRecDepth 100000 in
theorem comes_walk (m : Nat) (hm : m < 115792089237316195423570985008687907853269984665640564039457584007913129639936) (wd : Int) (w : World) :
    Calls Try.prog 6 #[fe (m : Int), .int .i64 wd] w fun e w' => e = .returned (.bool true) ∧ Chg w w' [] := by
  have hge := feGuard
  have ra : R256 (m : Int) := ⟨by omega, by omega⟩
  obtain ⟨n, hI, hn⟩ := val_c m
  have hn2 : n < 115792089237316195423570985008687907853269984665640564039457584007913129639936 := Nat.lt_trans hn (by decide)
  have HN : Hid ((m : Int) % L = (n : Int)) := hI
  have HLO : Hid (ad (m : Int) 0 = (n : Int)) := low_c m n hI
  have HDB : Hid (∀ i, i < 64 → -1000 ≤ dd n i ∧ dd n i ≤ 1000) := fun i _ => dd_bd' n i
  have HS16 : Hid (sg (dd n) ((16 : Nat) : Int) 64 % L = (n : Int)) := mod_n n _ m hI (sg16_all n hn2)
  have HDD : Hid (∀ i, i < 63 → -8 ≤ dd n i ∧ dd n i ≤ 7) := fun i h => dd_bd n i h
  have HDL : Hid (0 ≤ dd n 63 ∧ dd n 63 ≤ 2) := dd_last n hn
  have HNM : Hid (∀ q, 2 ≤ q → sg (dn q n) ((2 : Nat) : Int) 256 % L = (n : Int)) := fun q h => mod_n n _ m hI (sg2_all q n h hn)
  have z1 : eqf (n : Int) (n : Int) = true := eqf_self _
  have hn2' : Hid (n < 115792089237316195423570985008687907853269984665640564039457584007913129639936) := hn2
  clear hI hn hn2
  have F0 := Blk.new w (feC (m : Int)) 23
  have CC := (Chg.refl w []).alloc (.cells (feC (m : Int)) 23)
  go_enter Try.func6, Try.ntmps6
  go_wp2_with (first | (refine wpList_load_row rfl 23 _ rfl w.heap.size rfl 23 _ (0, 0) _ F0 Try.underlying23 rfl feInfo ?_) | (refine gl_build (by rfl) 23 #[] rfl (feC 0) (by kernel_rfl) ?_))
  refine (Add_is (m : Int) 0 (n : Int) ra r256_c0 HLO.out _).mono ?_
  rintro e v1 ⟨rfl, k⟩
  replace F0 := F0.chg k (by simp)
  replace CC := CC.trans1 k
  clear k
  have FZ := Blk.new v1 z32 23
  have KS : Chg v1 ((v1.alloc (.cells z32 23)).setRow v1.heap.size (feC (n : Int))) [] := ((Chg.refl v1 []).alloc (.cells z32 23)).setRowNew (Nat.le_refl _) _
  replace F0 := F0.chg KS (by simp)
  replace CC := CC.trans1 KS
  clear KS
  go_wp2_with (first | (refine wpList_store_row rfl 23 _ _ rfl v1.heap.size (feC (n : Int)) rfl rfl 23 _ FZ feInfo rfl (feC_one _) ?_) | (refine wpList_load_row rfl 23 _ rfl w.heap.size rfl 23 _ (0, 0) _ F0 Try.underlying23 rfl feInfo ?_))
  have F5 := FZ.setRow (feC (n : Int))
  try (change Calls Try.prog _ _ ((v1.alloc (.cells z32 23)).setRow v1.heap.size (feC (n : Int))) _)
  generalize (v1.alloc (.cells z32 23)).setRow v1.heap.size (feC (n : Int)) = y1 at *
  generalize v1.heap.size = g5 at *
  clear FZ
  refine (Digits_s (m : Int) ra n HN.out hn2'.out _).mono ?_
  rintro e y2 ⟨g6, rfl, _, BD, k⟩
  replace F0 := F0.chg k (by simp)
  replace F5 := F5.chg k (by simp)
  replace CC := CC.trans1 k
  clear k
  go_upto_region 3 with fail
  go_cut [29] (fun t wc => t = .bool false ∧ Chg y2 wc [])
  case first =>
    refine wp_region_held_drew (S := fun w' => Chg y2 w' []) (by kernel_rfl) ((Chg.refl y2 _).drew) (fun hHeld => ?_)
    refine take_val (v := ?_) 0 (some 21) rfl (by kernel_rfl) (by kernel_rfl) (by kernel_rfl) (fun _ _ _ h => h) rfl rfl (fun w hSw => ?_) hHeld ?_
    rotate_left
    · (go_simp; try with_reducible rfl)
    try simp only [Act.put, List.setIfInBounds_toArray, List.set_cons_zero, List.set_cons_succ]
    refine take_val (v := ?_) 1 (some 22) rfl (by kernel_rfl) (by kernel_rfl) (by kernel_rfl) (fun _ _ _ h => h) rfl rfl (fun w hSw => ?_) hHeld ?_
    rotate_left
    · (go_simp; try with_reducible rfl)
    try simp only [Act.put, List.setIfInBounds_toArray, List.set_cons_zero, List.set_cons_succ]
    refine take_val (v := ?_) 2 (some 23) rfl (by kernel_rfl) (by kernel_rfl) (by kernel_rfl) (fun _ _ _ h => h) rfl rfl (fun w hSw => ?_) hHeld ?_
    rotate_left
    · (go_simp; try with_reducible rfl)
    try simp only [Act.put, List.setIfInBounds_toArray, List.set_cons_zero, List.set_cons_succ]
    refine take_val (v := ?_) 3 (some 24) rfl (by kernel_rfl) (by kernel_rfl) (by kernel_rfl) (fun _ _ _ h => h) rfl rfl (fun w hSw => ?_) hHeld ?_
    rotate_left
    · (go_simp; try with_reducible rfl)
    try simp only [Act.put, List.setIfInBounds_toArray, List.set_cons_zero, List.set_cons_succ]
    refine take_val (v := ?_) 4 (some 25) rfl (by kernel_rfl) (by kernel_rfl) (by kernel_rfl) (fun _ _ _ h => h) rfl rfl (fun w hSw => ?_) hHeld ?_
    rotate_left
    · (go_simp; try with_reducible rfl)
    try simp only [Act.put, List.setIfInBounds_toArray, List.set_cons_zero, List.set_cons_succ]
    refine take_load 6 (some 27) (feC (n : Int)) rfl (by kernel_rfl) (by kernel_rfl) (by kernel_rfl) (fun _ _ _ h => h) rfl rfl 23 _ rfl g5 rfl 23 _ (fun w hSw => F5.chg hSw (by simp)) Try.underlying23 rfl (by first | exact feInfo | kernel_rfl) hHeld ?_
    try simp only [Act.put, List.setIfInBounds_toArray, List.set_cons_zero, List.set_cons_succ]
    refine wpAnyH_ready (rs := [5]) (by kernel_rfl) (by simp) ?_
    refine AllReadyH.cons (o := _) rfl (fun K hK => ?_) ?_
    ·
      go_simp
      refine (back_s g6 64 64 (dd n) 16 (by decide) (by decide) HDB.out _ (BD.chg hHeld (by simp)).lt (fun i hi => by rw [(BD.chg hHeld (by simp)).cell, iC_get _ _ _ hi]) (n : Int) HS16.out).mono ?_
      rintro e x5 ⟨rfl, k⟩
      go_wp2_with fail
      refine hK.out _ _ (hHeld.trans1 k) (fun hHeld => ?_)
      clear hK K
      try simp only [Act.put, List.setIfInBounds_toArray, List.set_cons_zero, List.set_cons_succ]
      refine take_val (v := (.bool false)) 7 (some 28) rfl (by kernel_rfl) (by kernel_rfl) (by kernel_rfl) (fun _ _ _ h => h) rfl rfl (fun w hSw => ?_) hHeld ?_
      · (go_simp; try with_reducible rfl)
      try simp only [Act.put, List.setIfInBounds_toArray, List.set_cons_zero, List.set_cons_succ]
      refine take_val (v := ?_) 8 (some 29) rfl (by kernel_rfl) (by kernel_rfl) (by kernel_rfl) (fun _ _ _ h => h) rfl rfl (fun w hSw => ?_) hHeld ?_
      rotate_left
      · (go_simp; try with_reducible rfl)
      try simp only [Act.put, List.setIfInBounds_toArray, List.set_cons_zero, List.set_cons_succ]
      refine wpAnyH_done (by kernel_rfl) ?_ _
      go_wp2_with fail
      go_meet
      case rel => exact ⟨rfl, hHeld⟩
    exact AllReadyH.nil
  case rest =>
    obtain ⟨rfl, k⟩ := hcut
    replace F0 := F0.chg k (by simp)
    replace F5 := F5.chg k (by simp)
    replace BD := BD.chg k (by simp)
    replace CC := CC.trans1 k
    clear k HS16 HDB
    generalize wc = y3 at *
    go_wp2_with fail
    go_loopw [7] (fun t wr => ∃ i : Nat, i ≤ 64 ∧ t = .int .i64 (i : Int) ∧ wr = y3) (fun t _ => (64 - intOf t).toNat)
    case atStart => exact ⟨0, by decide, rfl, rfl⟩
    case round =>
      obtain ⟨i, hi, rfl, rfl⟩ := hrel
      by_cases h : i < 64
      · have hI : (i : Int) < 64 := by omega
        have HM : Hid _ := m64c i h
        have HI1 : Hid (i + 1 ≤ 64) := h
        have cl : wr.cell? ⟨g6, i, none⟩ = some (.int .i64 (dd n i)) := by rw [BD.cell, iC_get _ _ _ h]
        by_cases h63 : i < 63
        · have hI6 : (i : Int) < 63 := by omega
          have hI7 : ¬ (i : Int) = 63 := by omega
          have hb := HDD.out i h63
          generalize dd n i = x at *
          have j1 : ¬ x < -8 := by omega
          have j2 : ¬ (7 : Int) < x := by omega
          clear hb h h63 hi F0 F5 BD CC
          go_wp2_with fail
          exact ⟨⟨i + 1, HI1.out, by go_num, by first | rfl | trivial⟩, HM.out⟩
        · obtain rfl : i = 63 := by omega
          have hb := HDL.out
          generalize dd n 63 = x at *
          have j1 : ¬ x < 0 := by omega
          have j2 : ¬ (2 : Int) < x := by omega
          clear hb h h63 hi F0 F5 BD CC
          go_wp2_with fail
          exact ⟨⟨64, by decide, by go_num, by first | rfl | trivial⟩, HM.out⟩
      · have hI : ¬ (i : Int) < 64 := by omega
        obtain rfl : i = 64 := by omega
        obtain ⟨k, hk, hk7⟩ := mod8 wd
        have a1 : bits .and .i64 wd 7 = (k : Int) := by rw [i64_and7]; exact hk
        have a2 : wrap64 (2 + (k : Int)) = ((k + 2 : Nat) : Int) := by unfold wrap64; omega
        obtain ⟨k2, hk2⟩ : ∃ x, k + 2 = x := ⟨_, rfl⟩
        rw [hk2] at a2
        have a3 : (2 : Int) + (k : Int) = (k2 : Int) := by omega
        have HK : Hid (2 ≤ k2 ∧ k2 ≤ 9) := by show 2 ≤ k2 ∧ k2 ≤ 9; omega
        have a4 : wrap64 (k2 : Int) = (k2 : Int) := by unfold wrap64; omega
        clear hk hk7 hk2 HDD HDL BD h hi
        go_upto_if 72 with fail
        go_cut [8] (fun t8 wc => ∃ q : Nat, 2 ≤ q ∧ q ≤ 8 ∧ t8 = .int .i64 (q : Int) ∧ Chg wr wc [])
        case first =>
          have hk := HK.out
          by_cases h8 : k2 ≤ 8
          · have i8 : ¬ (8 : Int) < (k2 : Int) := by omega
            go_wp2_with fail
            go_meet
            case rel => exact ⟨k2, hk.1, h8, rfl, Chg.refl _ _⟩
          · have i8 : (8 : Int) < (k2 : Int) := by omega
            go_wp2_with fail
            go_meet
            case rel => exact ⟨8, by decide, by decide, rfl, Chg.refl _ _⟩
        case rest =>
          obtain ⟨q, hq, hq8, rfl, k0⟩ := hcut
          replace F0 := F0.chg k0 (by simp)
          replace F5 := F5.chg k0 (by simp)
          replace CC := CC.trans1 k0
          clear k0 a1 a2 a3 a4 HK
          generalize wc = y4 at *
          go_wp2_with (refine wpList_load_row rfl 23 _ rfl w.heap.size rfl 23 _ (0, 0) _ F0 Try.underlying23 rfl feInfo ?_)
          refine (Naf_s (m : Int) ra n q HN.out hn2'.out hq hq8 _).mono ?_
          rintro e y5 ⟨gl, rfl, _, BL, k0⟩
          replace F5 := F5.chg k0 (by simp)
          replace CC := CC.trans1 k0
          clear k0 F0
          have HNB : Hid (∀ i, i < 256 → -1000 ≤ dn q n i ∧ dn q n i ≤ 1000) := fun i _ => dn_bd q n i hq hq8
          have HS2 : Hid (sg (dn q n) ((2 : Nat) : Int) 256 % L = (n : Int)) := HNM.out q hq
          go_upto_region 14 with fail
          go_cut [91] (fun t wc => t = .bool false ∧ Chg y5 wc [])
          case first =>
              refine wp_region_held_drew (S := fun w' => Chg y5 w' []) (by kernel_rfl) ((Chg.refl y5 _).drew) (fun hHeld => ?_)
              refine take_val (v := ?_) 0 (some 79) rfl (by kernel_rfl) (by kernel_rfl) (by kernel_rfl) (fun _ _ _ h => h) rfl rfl (fun w hSw => ?_) hHeld ?_
              rotate_left
              · (go_simp; try with_reducible rfl)
              try simp only [Act.put, List.setIfInBounds_toArray, List.set_cons_zero, List.set_cons_succ]
              refine take_val (v := ?_) 1 (some 80) rfl (by kernel_rfl) (by kernel_rfl) (by kernel_rfl) (fun _ _ _ h => h) rfl rfl (fun w hSw => ?_) hHeld ?_
              rotate_left
              · (go_simp; try with_reducible rfl)
              try simp only [Act.put, List.setIfInBounds_toArray, List.set_cons_zero, List.set_cons_succ]
              refine take_val (v := ?_) 2 (some 81) rfl (by kernel_rfl) (by kernel_rfl) (by kernel_rfl) (fun _ _ _ h => h) rfl rfl (fun w hSw => ?_) hHeld ?_
              rotate_left
              · (go_simp; try with_reducible rfl)
              try simp only [Act.put, List.setIfInBounds_toArray, List.set_cons_zero, List.set_cons_succ]
              refine take_val (v := ?_) 3 (some 82) rfl (by kernel_rfl) (by kernel_rfl) (by kernel_rfl) (fun _ _ _ h => h) rfl rfl (fun w hSw => ?_) hHeld ?_
              rotate_left
              · (go_simp; try with_reducible rfl)
              try simp only [Act.put, List.setIfInBounds_toArray, List.set_cons_zero, List.set_cons_succ]
              refine take_val (v := ?_) 4 (some 83) rfl (by kernel_rfl) (by kernel_rfl) (by kernel_rfl) (fun _ _ _ h => h) rfl rfl (fun w hSw => ?_) hHeld ?_
              rotate_left
              · (go_simp; try with_reducible rfl)
              try simp only [Act.put, List.setIfInBounds_toArray, List.set_cons_zero, List.set_cons_succ]
              refine take_val (v := ?_) 5 (some 84) rfl (by kernel_rfl) (by kernel_rfl) (by kernel_rfl) (fun _ _ _ h => h) rfl rfl (fun w hSw => ?_) hHeld ?_
              rotate_left
              · (go_simp; try with_reducible rfl)
              try simp only [Act.put, List.setIfInBounds_toArray, List.set_cons_zero, List.set_cons_succ]
              refine take_val (v := ?_) 6 (some 85) rfl (by kernel_rfl) (by kernel_rfl) (by kernel_rfl) (fun _ _ _ h => h) rfl rfl (fun w hSw => ?_) hHeld ?_
              rotate_left
              · (go_simp; try with_reducible rfl)
              try simp only [Act.put, List.setIfInBounds_toArray, List.set_cons_zero, List.set_cons_succ]
              refine take_val (v := ?_) 7 (some 86) rfl (by kernel_rfl) (by kernel_rfl) (by kernel_rfl) (fun _ _ _ h => h) rfl rfl (fun w hSw => ?_) hHeld ?_
              rotate_left
              · (go_simp; try with_reducible rfl)
              try simp only [Act.put, List.setIfInBounds_toArray, List.set_cons_zero, List.set_cons_succ]
              refine take_val (v := ?_) 8 (some 87) rfl (by kernel_rfl) (by kernel_rfl) (by kernel_rfl) (fun _ _ _ h => h) rfl rfl (fun w hSw => ?_) hHeld ?_
              rotate_left
              · (go_simp; try with_reducible rfl)
              try simp only [Act.put, List.setIfInBounds_toArray, List.set_cons_zero, List.set_cons_succ]
              refine take_load 10 (some 89) (feC (n : Int)) rfl (by kernel_rfl) (by kernel_rfl) (by kernel_rfl) (fun _ _ _ h => h) rfl rfl 23 _ rfl g5 rfl 23 _ (fun w hSw => F5.chg hSw (by simp)) Try.underlying23 rfl (by first | exact feInfo | kernel_rfl) hHeld ?_
              try simp only [Act.put, List.setIfInBounds_toArray, List.set_cons_zero, List.set_cons_succ]
              refine wpAnyH_ready (rs := [9]) (by kernel_rfl) (by simp) ?_
              refine AllReadyH.cons (o := _) rfl (fun K hK => ?_) ?_
              ·
                go_simp
                refine (back_s gl 256 256 (dn q n) 2 (by decide) (by decide) HNB.out _ (BL.chg hHeld (by simp)).lt (fun i hi => by rw [(BL.chg hHeld (by simp)).cell, iC_get _ _ _ hi]) (n : Int) HS2.out).mono ?_
                rintro e x9 ⟨rfl, k⟩
                go_wp2_with fail
                refine hK.out _ _ (hHeld.trans1 k) (fun hHeld => ?_)
                clear hK K
                try simp only [Act.put, List.setIfInBounds_toArray, List.set_cons_zero, List.set_cons_succ]
                refine take_val (v := (.bool false)) 11 (some 90) rfl (by kernel_rfl) (by kernel_rfl) (by kernel_rfl) (fun _ _ _ h => h) rfl rfl (fun w hSw => ?_) hHeld ?_
                · (go_simp; try with_reducible rfl)
                try simp only [Act.put, List.setIfInBounds_toArray, List.set_cons_zero, List.set_cons_succ]
                refine take_val (v := ?_) 12 (some 91) rfl (by kernel_rfl) (by kernel_rfl) (by kernel_rfl) (fun _ _ _ h => h) rfl rfl (fun w hSw => ?_) hHeld ?_
                rotate_left
                · (go_simp; try with_reducible rfl)
                try simp only [Act.put, List.setIfInBounds_toArray, List.set_cons_zero, List.set_cons_succ]
                refine wpAnyH_done (by kernel_rfl) ?_ _
                go_wp2_with fail
                go_meet
                case rel => exact ⟨rfl, hHeld⟩
              exact AllReadyH.nil
          case rest =>
            obtain ⟨rfl, k0⟩ := hcut
            replace F5 := F5.chg k0 (by simp)
            replace BL := BL.chg k0 (by simp)
            replace CC := CC.trans1 k0
            clear k0 HS2 HNB HNM
            generalize wc = y6 at *
            have b1 : wrap64 (-(q : Int)) = -(q : Int) := by unfold wrap64; omega
            have HQ1 : Hid (2 ≤ q) := hq
            have HQ8 : Hid (q ≤ 8) := hq8
            go_upto_region 16 with fail
            go_cut [11] (fun t wc => t = .int .i64 (-(q : Int)) ∧ Chg y6 wc [])
            case first =>
              go_wp2_with fail
              go_meet
              case rel => exact ⟨by first | rfl | rw [b1], Chg.refl _ _⟩
            case rest =>
              obtain ⟨rfl, k0⟩ := hcut
              replace F5 := F5.chg k0 (by simp)
              replace BL := BL.chg k0 (by simp)
              replace CC := CC.trans1 k0
              refine (‹∀ (a : Act) (w : World), Code.wp Try.prog _ _ a w → _› : ∀ (a : Act) (w : World), _ → _) _ _ ?_
              exact comes_t2 n q g5 gl HQ1.out HQ8.out w _ F5 BL CC
end Go.Proofs.Ytcdgkhejbdlapab
