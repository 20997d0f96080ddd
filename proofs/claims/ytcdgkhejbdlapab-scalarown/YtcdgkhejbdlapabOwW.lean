/- ScalarOwn: the walk. -/
import Derived.Test.YtcdgkhejbdlapabOwnM
import Derived.Test.YtcdgkhejbdlapabWorks
set_option linter.unusedVariables false
set_option linter.unusedSimpArgs false
set_option linter.unnecessarySimpa false
namespace Go.Proofs.Ytcdgkhejbdlapab
open Go.RowKit N

theorem exec_build {P : Program} {o : Oper} {a : Act} (w : World) (t : TypeId) (parts : Array (Nat × Operand)) (ho : o.op = .build t parts) (cells : Array Value) (hb : P.built t (parts.map fun (i, x) => (i, a.eval x)).toList = some cells) :
    (execOp a.eval o).run P w = .ok (.value (.agg cells)) w := by
  have h := run_build (P := P) w t (parts.map fun (i, x) => (i, a.eval x)) cells hb
  unfold execOp
  simp only [ho, Sem.run_bind, h, Result.andThen_ok, Sem.run_pure]
def bNil : Nat → Value := fun _ => .slice none 0 0
theorem zBook : #[Value.slice none 0 0, .slice none 0 0, .slice none 0 0, .slice none 0 0, .slice none 0 0, .slice none 0 0, .slice none 0 0, .slice none 0 0, .slice none 0 0, .slice none 0 0, .slice none 0 0, .slice none 0 0, .slice none 0 0, .slice none 0 0, .slice none 0 0, .slice none 0 0, .slice none 0 0, .slice none 0 0, .slice none 0 0, .slice none 0 0, .slice none 0 0] = bkC bNil := by kernel_rfl
theorem ownR_ge' {w : World} {base : Nat} {T : TypeId} {s : Nat} {v : Value} {n : Nat} {F : Nat → List Value} (h : OwnR w base T s v n F) : ∀ k ∈ ob v, base ≤ k ∧ k < w.heap.size := fun k hk =>
  h.1.lt k (by unfold ob at hk; cases hq : v.ownBlock with
    | none => rw [hq] at hk; simp at hk
    | some x => rw [hq] at hk; simp at hk; rw [hk])
theorem digits_o (a : Nat) (ha : a < 115792089237316195423570985008687907853269984665640564039457584007913129639936) (w : World) : Calls Try.prog 26 #[fe ((a : Nat) : Int)] w fun e w' => ∃ g G, e = .returned (.slice (some ⟨g, 0, none⟩) 64 64) ∧ w.heap.size ≤ g ∧ Blk w' g (iC 64 G) 3 ∧ Chg w w' [] := by
  have h0 : 0 ≤ (a : Int) % L := Int.emod_nonneg _ (by unfold L; decide)
  have h1 : (a : Int) % L < L := Int.emod_lt_of_pos _ L_pos
  have h2 := L_256
  exact (Digits_s (a : Int) ⟨by omega, by omega⟩ ((a : Int) % L).toNat (by omega) (by omega) w).mono fun e w' ⟨g, q1, q2, q3, q4⟩ => ⟨g, _, q1, q2, q3, q4⟩
theorem naf_o (a : Nat) (ha : a < 115792089237316195423570985008687907853269984665640564039457584007913129639936) (w : World) : Calls Try.prog 28 #[fe ((a : Nat) : Int), .int .i64 4] w fun e w' => ∃ g G, e = .returned (.tuple #[.slice (some ⟨g, 0, none⟩) 256 256, .int .i64 0]) ∧ w.heap.size ≤ g ∧ Blk w' g (iC 256 G) 3 ∧ Chg w w' [] := by
  have h0 : 0 ≤ (a : Int) % L := Int.emod_nonneg _ (by unfold L; decide)
  have h1 : (a : Int) % L < L := Int.emod_lt_of_pos _ L_pos
  have h2 := L_256
  exact (Naf_s (a : Int) ⟨by omega, by omega⟩ ((a : Int) % L).toNat 4 (by omega) (by omega) (by decide) (by decide) w).mono fun e w' ⟨g, q1, q2, q3, q4⟩ => ⟨g, _, q1, q2, q3, q4⟩
theorem mul_iv (j : Nat) (h : ¬ LN ∣ wv j) (w : World) : Calls Try.prog 9 #[fe (iv ((wv j : Nat) : Int)), fe ((wv j : Nat) : Int)] w fun e w' => e = .returned (fe 1) ∧ Chg w w' [] := by
  have h1 := iv_bd ((wv j : Nat) : Int)
  have h2 := L_256
  have h3 := wv_lt j
  have q := Mul_s (iv ((wv j : Nat) : Int)) ((wv j : Nat) : Int) ⟨h1.1, by omega⟩ ⟨by omega, by omega⟩ w
  rw [iv_mul (wv j) h] at q
  exact q
set_option maxHeartbeats 16000000 in
set_option maxRecDepth 100000 in
theorem own_walk (v1 v2 : Value) (n m a : Nat) (f g : Nat → Nat) (hn : n ≤ 4398046510976) (hm : m ≤ 4398046510976) (ha : a < 115792089237316195423570985008687907853269984665640564039457584007913129639936) (w : World) (h1 : Ls w v1 n f) (h2 : Ls w v2 m g) :
    Calls Try.prog 7 #[v1, v2, fe ((a : Nat) : Int)] w fun e w' => e = .returned (.bool true) ∧ Chg w w' [] := by
  have HN : Hid (n ≤ 4398046510976) := hn
  have HM : Hid (m ≤ 4398046510976) := hm
  have HL1 : Hid (∀ W, Chg w W [] → Ls W v1 n f) := fun W h => h1.chg h (Off.nil _)
  have HL2 : Hid (∀ W, Chg w W [] → Ls W v2 m g) := fun W h => h2.chg h (Off.nil _)
  have HF1 : Hid (∀ i, i < n → f i < 115792089237316195423570985008687907853269984665640564039457584007913129639936) := h1.1
  have HDG : Hid _ := digits_o a ha
  have HNF : Hid _ := naf_o a ha
  have HWK : Hid _ := works_true
  obtain ⟨A, hA⟩ : ∃ A : Int, ((a : Nat) : Int) = A := ⟨_, rfl⟩
  rw [hA] at HDG HNF ⊢
  clear hn hm h1 h2 ha hA
  have F0 : Blk ((w.alloc (.cells (feC A) 23)).alloc (.cells (bkC bNil) 75)) w.heap.size (feC A) 23 := (Blk.new w (feC A) 23).alloc _
  have GB : Blk ((w.alloc (.cells (feC A) 23)).alloc (.cells (bkC bNil) 75)) (w.heap.size + 1) (bkC bNil) 75 := by have h := Blk.new (w.alloc (.cells (feC A) 23)) (bkC bNil) 75; simpa using h
  have CC : Chg w ((w.alloc (.cells (feC A) 23)).alloc (.cells (bkC bNil) 75)) [] := ((Chg.refl w []).alloc _).alloc _
  have HGB : Hid (w.heap.size ≤ w.heap.size + 1) := Nat.le_succ _
  go_enter Try.func7, Try.ntmps7
  go_wp2_with fail
  rw [zBook]
  generalize (w.alloc (.cells (feC A) 23)).alloc (.cells (bkC bNil) 75) = w2 at *
  generalize w.heap.size + 1 = gb at *
  refine (CopyScalars_any v1 n (fR f) w2 HN.out (HL1.out w2 CC).rl).mono ?_
  rintro e w3 ⟨x, rfl, OX, k⟩
  have HXB : Hid (∀ q, q ∈ ob x → q < w3.heap.size) := fun q hq => (ownR_ge' OX q hq).2
  have HW2 : Hid (w.heap.size ≤ w2.heap.size) := CC.size
  replace CC := CC.trans1 k
  replace F0 := F0.chg k (by simp)
  have BK : BkT w3 gb gb w3.heap.size [] [] 0 0 := BkT.zero (fun _ _ => rfl) (GB.chg k (by simp)) (Nat.le_refl _)
  have HWB : Hid (w.heap.size ≤ w3.heap.size) := CC.size
  clear k GB
  go_wp2_with fail
  refine (InvertAll_x x n f (by have := HN.out; omega) w3 (OX.rl.ls HF1.out)).mono ?_
  rintro e w4 ⟨x1, c1, d1, rfl, X1, k⟩
  have HSw4 : Hid (w3.heap.size ≤ w4.heap.size) := k.size
  replace CC := CC.trans1 k
  replace BK := BK.chg k
  replace F0 := F0.chg k (by simp)
  replace OX := OX.chg k (by simp)
  clear k
  go_wp2_with fail
  refine (InvertAll_x v2 m g (by have := HM.out; omega) w4 (HL2.out w4 CC)).mono ?_
  rintro e w5 ⟨x2, c2, d2, rfl, X2, k⟩
  have HSw5 : Hid (w4.heap.size ≤ w5.heap.size) := k.size
  replace CC := CC.trans1 k
  replace BK := BK.chg k
  replace F0 := F0.chg k (by simp)
  replace OX := OX.chg k (by simp)
  replace X1 := X1.chg k (Fr.nil _ _)
  clear k
  go_wp2_with fail
  refine (InvertAll_x x n f (by have := HN.out; omega) w5 (OX.rl.ls HF1.out)).mono ?_
  rintro e w6 ⟨x3, c3, d3, rfl, X3, k⟩
  have HSw6 : Hid (w5.heap.size ≤ w6.heap.size) := k.size
  replace CC := CC.trans1 k
  replace BK := BK.chg k
  replace F0 := F0.chg k (by simp)
  replace OX := OX.chg k (by simp)
  replace X1 := X1.chg k (Fr.nil _ _)
  replace X2 := X2.chg k (Fr.nil _ _)
  obtain rfl := X1.same X3
  clear k
  go_wp2_with fail
  have HLS : Hid (Ls w6 x1 (if c1 = 9 then 0 else n) (ivf f) ∧ Ls w6 x3 (if c1 = 9 then 0 else n) (ivf f) ∧ (if c1 = 9 then 0 else n) ≤ 140737488355328) := ⟨X1.ls HN.out, X3.ls HN.out, by have := HN.out; split <;> omega⟩
  refine (SameScalars_t x1 x3 _ (ivf f) HLS.out.2.2 w6 HLS.out.1 HLS.out.2.1).mono ?_
  rintro e w7 ⟨rfl, k⟩
  have HS7 : Hid (w6.heap.size ≤ w7.heap.size) := k.size
  replace CC := CC.trans1 k
  replace BK := BK.chg k
  replace F0 := F0.chg k (by simp)
  replace OX := OX.chg k (by simp)
  replace X1 := X1.chg k (Fr.nil _ _)
  replace X2 := X2.chg k (Fr.nil _ _)
  replace X3 := X3.chg k (Fr.nil _ _)
  clear k HLS
  go_wp2_with fail
  refine (Nl.add BK (by decide) X1 HN.out (Nat.le_refl _) (fun y hy => by simp at hy) HSw4.out).mono ?_
  rintro e w8 ⟨rfl, ⟨Lw8, Kw8, HKw8, HLw8, BK⟩, l, k2, FB⟩
  have HEw8 : Hid (_ ≤ w8.heap.size) := k2.size
  replace HKw8 : Hid _ := HKw8
  replace HLw8 : Hid _ := HLw8
  replace X2 := X2.chg k2 FB.2.1
  replace X3 := X3.chg k2 FB.2.1
  replace F0 := F0.chg k2 (FB.2.1 _ _ F0)
  replace OX := OX.chg k2 (fun q hq => by obtain ⟨C, hC⟩ := ownR_blk OX hq; exact FB.2.1 q C hC)
  replace CC := CC.trans k2 (fun q hq => Or.inr (Nat.le_trans HGB.out (FB.1 q hq)))
  clear k2 FB l
  go_wp2_with fail
  refine (Nl.add BK (by have := HKw8.out; omega) X2 HM.out (HSw4.out) HLw8.out HSw5.out).mono ?_
  rintro e w9 ⟨rfl, ⟨Lw9, Kw9, HKw9, HLw9, BK⟩, l, k2, FB⟩
  have HEw9 : Hid (_ ≤ w9.heap.size) := k2.size
  replace HKw9 : Hid _ := HKw9
  replace HLw9 : Hid _ := HLw9
  replace X3 := X3.chg k2 FB.2.1
  replace F0 := F0.chg k2 (FB.2.1 _ _ F0)
  replace OX := OX.chg k2 (fun q hq => by obtain ⟨C, hC⟩ := ownR_blk OX hq; exact FB.2.1 q C hC)
  replace CC := CC.trans k2 (fun q hq => Or.inr (Nat.le_trans HGB.out (FB.1 q hq)))
  clear k2 FB l
  go_wp2_with fail
  refine (Nl.add BK (by have := HKw8.out; have := HKw9.out; omega) X3 HN.out (Nat.le_trans HSw4.out HSw5.out) HLw9.out HSw6.out).mono ?_
  rintro e w10 ⟨rfl, ⟨Lw10, Kw10, HKw10, HLw10, BK⟩, l, k2, FB⟩
  have HEw10 : Hid (_ ≤ w10.heap.size) := k2.size
  replace HKw10 : Hid _ := HKw10
  replace HLw10 : Hid _ := HLw10
  replace F0 := F0.chg k2 (FB.2.1 _ _ F0)
  replace OX := OX.chg k2 (fun q hq => by obtain ⟨C, hC⟩ := ownR_blk OX hq; exact FB.2.1 q C hC)
  replace CC := CC.trans k2 (fun q hq => Or.inr (Nat.le_trans HGB.out (FB.1 q hq)))
  clear k2 FB l
  go_wp2_with fail
  have HK3 : Hid (Kw10 ≤ 3) := by have := HKw8.out; have := HKw9.out; have := HKw10.out; show Kw10 ≤ 3; omega
  have HBO : w3.heap.size ≤ w10.heap.size := Nat.le_trans HSw4.out (Nat.le_trans HSw5.out (Nat.le_trans HSw6.out (Nat.le_trans HS7.out (Nat.le_trans HEw8.out (Nat.le_trans HEw9.out HEw10.out)))))
  obtain ⟨bo, hbo⟩ : ∃ b, w3.heap.size = b := ⟨_, rfl⟩
  obtain ⟨b2, hb2⟩ : ∃ b, w2.heap.size = b := ⟨_, rfl⟩
  rw [hbo] at BK HXB HWB HBO
  rw [hb2] at OX HW2
  clear X1 X2 X3 HKw8 HKw9 HKw10 HLw8 HLw9 HLw10 HSw4 HSw5 HSw6 HS7 HEw8 HEw9 HEw10 hbo hb2
  go_loopw [18] (fun t wr => ∃ (i J : Nat) (M : List Nat), i ≤ 2 ∧ J ≤ 2 * i ∧ t = .int .i64 (i : Int) ∧ (∀ y, y ∈ M → y < wr.heap.size) ∧ BkT wr gb gb bo Lw10 M Kw10 J ∧ OwnR wr b2 23 32 x n (fR f) ∧ Blk wr w.heap.size (feC A) 23 ∧ Chg w wr [] ∧ bo ≤ wr.heap.size) (fun t _ => ((2 : Int) - intOf t).toNat)
  case atStart => exact ⟨0, 0, [], by omega, by omega, rfl, fun y hy => by simp at hy, BK, OX, F0, CC, HBO⟩
  case round =>
    clear BK OX F0 CC HBO
    obtain ⟨i, J, M, hi, hJ, rfl, hM, BK, OX, F0, CC, hbo⟩ := hrel
    by_cases h8 : i = 2
    · subst h8
      have hI : ¬ ((2 : Nat) : Int) < 2 := by omega
      have HJ : Hid (J ≤ 1000) := by show J ≤ 1000; omega
      clear hi hJ hM F0 hbo HDG HNF
      go_wp2_with fail
      refine (BK.apart (by have := HK3.out; omega) HJ.out).mono ?_
      rintro e w11 ⟨rfl, l, k, hl⟩
      replace OX := OX.chg k (fun q hq hm => by have := HXB.out q hq; have := hl q hm; omega)
      replace CC : Chg w w11 [] := CC.trans k (fun q hq => Or.inr (Nat.le_trans HWB.out (hl q hq)))
      clear k hl BK l HXB HJ
      go_wp2_with fail
      refine (SameScalars_t x v1 n f (by have := HN.out; omega) w11 (OX.rl.ls HF1.out) (HL1.out w11 CC)).mono ?_
      rintro e w12 ⟨rfl, k⟩
      replace CC := CC.trans1 k
      replace OX := OX.chg k (by simp)
      obtain ⟨p, cap, rfl, PW0⟩ := OX.pw
      clear k OX HL1 HL2 HF1
      go_wp2_with fail
      go_loopw [21] (fun t wr => ∃ i : Nat, i ≤ n ∧ t = .int .i64 (i : Int) ∧ PW wr b2 p n cap i ∧ Chg w wr []) (fun t _ => ((n : Int) - intOf t).toNat)
      case atStart => exact ⟨0, Nat.zero_le _, rfl, PW0, CC⟩
      case round =>
        clear PW0 CC
        obtain ⟨i, hi, rfl, PWi, CC⟩ := hrel
        by_cases h9 : i = n
        · subst h9
          have hI2 : ¬ (i : Int) < (i : Int) := by omega
          clear hi
          go_wp2_with fail
          refine (InvertAll_x (.slice p i cap) i wv (by have := HN.out; omega) wr PWi.ls).mono ?_
          rintro e w13 ⟨x5, c5, d5, rfl, X5, k⟩
          replace CC := CC.trans1 k
          have PWn := PWi.chg k
          clear k PWi
          rcases X5 with ⟨rfl, rfl, _⟩ | ⟨rfl, hnd, o, _, _, rfl, BX⟩
          · go_wp2_with fail
            go_loopw [25] (fun t wr => ∃ j : Nat, j ≤ i ∧ t = .int .i64 (j : Int) ∧ Chg w wr []) (fun t _ => ((i : Int) - intOf t).toNat)
            case atStart => exact ⟨0, Nat.zero_le _, rfl, CC⟩
            case round =>
              clear CC
              obtain ⟨j, hj, rfl, CC⟩ := hrel
              by_cases h10 : j < i
              · have hI3 : (j : Int) < (i : Int) := by omega
                clear hj h10
                go_wp2_with fail
                refine (HWK.out _).mono ?_
                rintro e w14 ⟨rfl, k⟩
                go_wp2_with fail
                go_ret
                exact ⟨rfl, CC.trans1 k⟩
              · have hI3 : ¬ (j : Int) < (i : Int) := by omega
                clear hj h10
                go_wp2_with fail
                refine (HWK.out _).mono ?_
                rintro e w14 ⟨rfl, k⟩
                go_wp2_with fail
                go_ret
                exact ⟨rfl, CC.trans1 k⟩
          · have HND : Hid (∀ j, j < i → ¬ LN ∣ wv j) := hnd
            obtain ⟨n, hin⟩ : ∃ n, i = n := ⟨_, rfl⟩
            subst hin
            clear hnd
            go_wp2_with fail
            go_loopw [25] (fun t wr => ∃ j : Nat, j ≤ i ∧ t = .int .i64 (j : Int) ∧ PW wr b2 p i cap i ∧ Blk wr o (rL 32 i (ivR wv 0)).toArray 23 ∧ Chg w wr []) (fun t _ => ((i : Int) - intOf t).toNat)
            case atStart => exact ⟨0, Nat.zero_le _, rfl, PWn, BX, CC⟩
            case round =>
              clear PWn BX CC
              obtain ⟨j, hj, rfl, PWn, BX, CC⟩ := hrel
              by_cases h10 : j < i
              · have hI3 : (j : Int) < (i : Int) := by omega
                have e1 : IntKind.i64.wrap ((j : Int) + 1) = (j : Int) + 1 := by have := HN.out; rw [IntKind.wrap_i64]; omega
                have HIN : Hid (j < i) := h10
                have HMs : Hid ((((i : Int)) - intOf (.int .i64 ((j : Int) + 1))).toNat < (((i : Int)) - intOf (.int .i64 (j : Int))).toNat) := by show ((((i : Int)) - intOf (.int .i64 ((j : Int) + 1))).toNat < (((i : Int)) - intOf (.int .i64 (j : Int))).toNat); simp [intOf] <;> omega
                have HMUL : Hid _ := mul_iv j (HND.out j h10)
                obtain ⟨g0, rfl⟩ : ∃ g0, p = some ⟨g0, 0, none⟩ := by
                  rcases PWn with ⟨h0, _⟩ | ⟨g0, C, h1, _⟩
                  · omega
                  · exact ⟨g0, h1⟩
                have HPX : Hid (∀ W, Chg wr W [] → W.rangeAt o (j * 32) (feL (iv ((wv j : Nat) : Int)))) := fun W hW => by
                  have r := (BX.chg hW (by simp)).rangeRw (ivR_ok wv 0 i) HIN.out
                  exact r
                have HPY : Hid (∀ W, Chg wr W [] → W.rangeAt g0 (j * 32) (feL ((wv j : Nat) : Int))) := fun W hW => by
                  rcases (PWn.chg hW).ls.2 with ⟨h0, _⟩ | ⟨g', o', cap', he, _, _, _, h4⟩
                  · have := HIN.out; omega
                  · simp at he
                    obtain ⟨⟨rfl, rfl⟩, rfl⟩ := he
                    have q := (h4 j HIN.out).range
                    rw [Nat.zero_add] at q
                    exact q
                obtain ⟨Y, hY⟩ : ∃ Y : Int, ((wv j : Nat) : Int) = Y := ⟨_, rfl⟩
                rw [hY] at HMUL HPX HPY
                obtain ⟨X, hXX⟩ : ∃ X : Int, iv Y = X := ⟨_, rfl⟩
                rw [hXX] at HMUL HPX
                clear hj h10 hY hXX
                go_wp2_with fail
                refine wp_region_held_drew (S := fun w' => Chg wr w' []) (by kernel_rfl) ((Chg.refl wr _).drew) (fun hHeld => ?_)
                refine take_val (v := ?_) 0 (some 115) rfl (by kernel_rfl) (by kernel_rfl) (by kernel_rfl) (fun _ _ _ h => h) rfl rfl (fun w hSw => ?_) hHeld ?_
                rotate_left
                · (go_simp; try with_reducible rfl)
                try simp only [Act.put, List.setIfInBounds_toArray, List.set_cons_zero, List.set_cons_succ]
                refine take_val (v := ?_) 1 (some 116) rfl (by kernel_rfl) (by kernel_rfl) (by kernel_rfl) (fun _ _ _ h => h) rfl rfl (fun w hSw => ?_) hHeld ?_
                rotate_left
                · (go_simp; try with_reducible rfl)
                try simp only [Act.put, List.setIfInBounds_toArray, List.set_cons_zero, List.set_cons_succ]
                refine take_val (v := (.int .i64 (i : Int))) 2 (some 117) rfl (by kernel_rfl) (by kernel_rfl) (by kernel_rfl) (fun _ _ _ h => h) rfl rfl (fun w hSw => ?_) hHeld ?_
                · (go_simp; try with_reducible rfl)
                try simp only [Act.put, List.setIfInBounds_toArray, List.set_cons_zero, List.set_cons_succ]
                refine take_val (v := (.bool false)) 3 (some 118) rfl (by kernel_rfl) (by kernel_rfl) (by kernel_rfl) (fun _ _ _ h => h) rfl rfl (fun w hSw => ?_) hHeld ?_
                · (go_simp; exact HIN.out)
                try simp only [Act.put, List.setIfInBounds_toArray, List.set_cons_zero, List.set_cons_succ]
                refine take_val (v := (.bool false)) 4 (some 119) rfl (by kernel_rfl) (by kernel_rfl) (by kernel_rfl) (fun _ _ _ h => h) rfl rfl (fun w hSw => ?_) hHeld ?_
                · (go_simp; try with_reducible rfl)
                try simp only [Act.put, List.setIfInBounds_toArray, List.set_cons_zero, List.set_cons_succ]
                refine take_val (v := ?_) 5 (some 120) rfl (by kernel_rfl) (by kernel_rfl) (by kernel_rfl) (fun _ _ _ h => h) rfl rfl (fun w hSw => ?_) hHeld ?_
                rotate_left
                · (go_simp; try with_reducible rfl)
                try simp only [Act.put, List.setIfInBounds_toArray, List.set_cons_zero, List.set_cons_succ]
                refine take_val (v := ?_) 6 (some 121) rfl (by kernel_rfl) (by kernel_rfl) (by kernel_rfl) (fun _ _ _ h => h) rfl rfl (fun w hSw => ?_) hHeld ?_
                rotate_left
                · (go_simp; try with_reducible rfl)
                try simp only [Act.put, List.setIfInBounds_toArray, List.set_cons_zero, List.set_cons_succ]
                refine take_val (v := ?_) 7 (some 122) rfl (by kernel_rfl) (by kernel_rfl) (by kernel_rfl) (fun _ _ _ h => h) rfl rfl (fun w hSw => ?_) hHeld ?_
                rotate_left
                · (go_simp; try with_reducible rfl)
                try simp only [Act.put, List.setIfInBounds_toArray, List.set_cons_zero, List.set_cons_succ]
                refine take_val (v := (fe X)) 8 (some 123) rfl (by kernel_rfl) (by kernel_rfl) (by kernel_rfl) (fun _ _ _ h => h) rfl rfl (fun w hSw => ?_) hHeld ?_
                · have r9 := HPX.out w hSw
                  exact exec_load_mid w 23 _ rfl o (j * 32) rfl (feL X) _ r9 Try.underlying23 rfl feInfo
                try simp only [Act.put, List.setIfInBounds_toArray, List.set_cons_zero, List.set_cons_succ]
                refine take_val (v := ?_) 9 (some 124) rfl (by kernel_rfl) (by kernel_rfl) (by kernel_rfl) (fun _ _ _ h => h) rfl rfl (fun w hSw => ?_) hHeld ?_
                rotate_left
                · (go_simp; try with_reducible rfl)
                try simp only [Act.put, List.setIfInBounds_toArray, List.set_cons_zero, List.set_cons_succ]
                refine take_val (v := ?_) 10 (some 125) rfl (by kernel_rfl) (by kernel_rfl) (by kernel_rfl) (fun _ _ _ h => h) rfl rfl (fun w hSw => ?_) hHeld ?_
                rotate_left
                · (go_simp; try with_reducible rfl)
                try simp only [Act.put, List.setIfInBounds_toArray, List.set_cons_zero, List.set_cons_succ]
                refine take_val (v := ?_) 11 (some 126) rfl (by kernel_rfl) (by kernel_rfl) (by kernel_rfl) (fun _ _ _ h => h) rfl rfl (fun w hSw => ?_) hHeld ?_
                rotate_left
                · (go_simp; try with_reducible rfl)
                try simp only [Act.put, List.setIfInBounds_toArray, List.set_cons_zero, List.set_cons_succ]
                refine take_val (v := (fe Y)) 12 (some 127) rfl (by kernel_rfl) (by kernel_rfl) (by kernel_rfl) (fun _ _ _ h => h) rfl rfl (fun w hSw => ?_) hHeld ?_
                · have r9 := HPY.out w hSw
                  exact exec_load_mid w 23 _ rfl g0 (j * 32) rfl (feL Y) _ r9 Try.underlying23 rfl feInfo
                try simp only [Act.put, List.setIfInBounds_toArray, List.set_cons_zero, List.set_cons_succ]
                refine take_val (v := .agg (feC 1)) 14 (some 129) rfl (by kernel_rfl) (by kernel_rfl) (by kernel_rfl) (fun _ _ _ h => h) rfl rfl (fun w hSw => exec_build w 23 #[(0, .const (.int .u8 1))] rfl (feC 1) (by kernel_rfl)) hHeld ?_
                try simp only [Act.put, List.setIfInBounds_toArray, List.set_cons_zero, List.set_cons_succ]
                refine wpAnyH_ready (rs := [13]) (by kernel_rfl) (by simp) ?_
                refine AllReadyH.cons (o := _) rfl (fun K hK => ?_) ?_
                ·
                  go_simp
                  refine (HMUL.out _).mono ?_
                  rintro e z13 ⟨rfl, q⟩
                  go_wp2_with fail
                  refine hK.out _ _ (hHeld.trans1 q) (fun hHeld => ?_)
                  clear hK K
                  try simp only [Act.put, List.setIfInBounds_toArray, List.set_cons_zero, List.set_cons_succ]
                  clear q
                  refine take_val (v := (.bool false)) 15 (some 130) rfl (by kernel_rfl) (by kernel_rfl) (by kernel_rfl) (fun _ _ _ h => h) rfl rfl (fun w hSw => ?_) hHeld ?_
                  · (go_simp; try with_reducible rfl)
                  try simp only [Act.put, List.setIfInBounds_toArray, List.set_cons_zero, List.set_cons_succ]
                  refine take_val (v := (.bool false)) 16 (some 131) rfl (by kernel_rfl) (by kernel_rfl) (by kernel_rfl) (fun _ _ _ h => h) rfl rfl (fun w hSw => ?_) hHeld ?_
                  · (go_simp; try with_reducible rfl)
                  try simp only [Act.put, List.setIfInBounds_toArray, List.set_cons_zero, List.set_cons_succ]
                  refine wpAnyH_done (by kernel_rfl) ?_ _
                  go_wp2_with fail
                  exact ⟨⟨j + 1, HIN.out, rfl, PWn.chg hHeld, BX.chg hHeld (by simp), CC.trans1 hHeld⟩, HMs.out⟩
                exact AllReadyH.nil
              · have hI3 : ¬ (j : Int) < (i : Int) := by omega
                clear hj h10
                go_wp2_with fail
                refine (HWK.out _).mono ?_
                rintro e w14 ⟨rfl, k⟩
                go_wp2_with fail
                go_ret
                exact ⟨rfl, CC.trans1 k⟩
        · have hin : i < n := by omega
          have hI2 : (i : Int) < (n : Int) := by omega
          have e1 : IntKind.i64.wrap ((i : Int) + 1) = (i : Int) + 1 := by have := HN.out; rw [IntKind.wrap_i64]; omega
          have e2 : IntKind.u8.wrap ((i : Int) + 1) = (((i + 1) % 256 : Nat) : Int) := by rw [IntKind.wrap_u8']; omega
          have e3 : IntKind.u8.wrap ((i : Int) / 256) = ((i / 256 % 256 : Nat) : Int) := by rw [IntKind.wrap_u8']; omega
          have HIN : Hid (i < n) := hin
          have HMs : Hid ((((n : Int)) - intOf (.int .i64 ((i : Int) + 1))).toNat < (((n : Int)) - intOf (.int .i64 (i : Int))).toNat) := by show ((((n : Int)) - intOf (.int .i64 ((i : Int) + 1))).toNat < (((n : Int)) - intOf (.int .i64 (i : Int))).toNat); simp [intOf] <;> omega
          have HBL : Hid _ := built_wv i
          obtain ⟨X, hX⟩ : ∃ X : Int, ((wv i : Nat) : Int) = X := ⟨_, rfl⟩
          rw [hX] at HBL
          have HX : Hid (((wv i : Nat) : Int) = X) := hX
          generalize (i + 1) % 256 = q1 at *
          generalize i / 256 % 256 = q2 at *
          obtain ⟨g0, rfl, hg0⟩ : ∃ g0, p = some ⟨g0, 0, none⟩ ∧ b2 ≤ g0 := by
            rcases PWi with ⟨h0, _⟩ | ⟨g0, C, h1, h2, _⟩
            · omega
            · exact ⟨g0, h1, h2⟩
          have HG0 : Hid (w.heap.size ≤ g0) := Nat.le_trans HW2.out hg0
          clear hin h9 hi hX hg0
          go_wp2_with (first
            | (with_reducible refine wpList_build_c' ?_ 23 #[(0, .tmp 93), (1, .tmp 96)] ?_ (feC X) ?_ ?_
               · rfl
               · rfl
               · (go_simp; with_reducible exact HBL.out))
            | (with_reducible refine store_pw ?_ (.tmp 98) (.tmp 97) ?_ g0 i n b2 cap X HX.out ?_ ?_ PWi HIN.out ?_
               · rfl
               · rfl
               · rfl
               · rfl
               intro w13 PW1 k))
          exact ⟨⟨i + 1, HIN.out, rfl, PW1, CC.new k HG0.out⟩, HMs.out⟩
    · have hi2 : i < 2 := by omega
      have hI : (i : Int) < 2 := by omega
      have e1 : IntKind.i64.wrap ((i : Int) + 1) = (i : Int) + 1 := by rw [IntKind.wrap_i64]; omega
      have HI1 : Hid (i + 1 ≤ 2) := hi2
      have HJ : Hid (J ≤ 2 * i) := hJ
      have HJ1 : Hid (J ≤ 999) := by show J ≤ 999; omega
      have HMs : Hid ((((2 : Int)) - intOf (.int .i64 ((i : Int) + 1))).toNat < (((2 : Int)) - intOf (.int .i64 (i : Int))).toNat) := by show ((((2 : Int)) - intOf (.int .i64 ((i : Int) + 1))).toNat < (((2 : Int)) - intOf (.int .i64 (i : Int))).toNat); simp [intOf] <;> omega
      have HB0 : Hid (bo ≤ wr.heap.size) := hbo
      have HMM : Hid (∀ y, y ∈ M → y < wr.heap.size) := hM
      clear h8 hi hJ hi2 hbo hM
      go_wp2_with (with_reducible refine load_b F0 23 (.tmp 5) Try.underlying23 ?_ ?_ ?_ ?_ ?_ ?_
                   · rfl
                   · rfl
                   · rfl
                   · rfl
                   · exact feInfo)
      refine (HNF.out _).mono ?_
      rintro e w11 ⟨g1, G1, rfl, hg1, B1, k⟩
      have HSA : Hid (wr.heap.size ≤ w11.heap.size) := k.size
      have HG1 : Hid (wr.heap.size ≤ g1) := hg1
      have HG1b : Hid (g1 < w11.heap.size) := B1.lt
      replace CC := CC.trans1 k
      replace BK := BK.chg k
      replace F0 := F0.chg k (by simp)
      replace OX := OX.chg k (by simp)
      clear k hg1
      go_wp2_with (with_reducible refine load_b F0 23 (.tmp 5) Try.underlying23 ?_ ?_ ?_ ?_ ?_ ?_
                   · rfl
                   · rfl
                   · rfl
                   · rfl
                   · exact feInfo)
      refine (HDG.out _).mono ?_
      rintro e w12 ⟨g2, G2, rfl, hg2, B2, k⟩
      have HSB : Hid (w11.heap.size ≤ w12.heap.size) := k.size
      have HG2 : Hid (w11.heap.size ≤ g2) := hg2
      have HG2b : Hid (g2 < w12.heap.size) := B2.lt
      replace CC := CC.trans1 k
      replace BK := BK.chg k
      replace F0 := F0.chg k (by simp)
      replace OX := OX.chg k (by simp)
      replace B1 := B1.chg k (by simp)
      clear k hg2
      go_wp2_with fail
      refine (BK.addI (by have := HJ1.out; omega) ⟨by decide, by decide⟩ B2 (by have := HB0.out; have := HSA.out; have := HG2.out; omega) (fun hm => by have := HMM.out g2 hm; have := HSA.out; have := HG2.out; omega)).mono ?_
      rintro e w13 ⟨rfl, BK, l, k2, FB⟩
      have HSC : Hid (w12.heap.size ≤ w13.heap.size) := k2.size
      replace F0 := F0.chg k2 (FB.2.1 _ _ F0)
      replace B1 := B1.chg k2 (FB.2.2 _ _ B1)
      replace OX := OX.chg k2 (fun q hq => by obtain ⟨C, hC⟩ := ownR_blk OX hq; exact FB.2.1 q C hC)
      replace CC := CC.trans k2 (fun q hq => Or.inr (Nat.le_trans HGB.out (FB.1 q hq)))
      clear k2 FB l
      go_wp2_with fail
      refine (BK.addI (by have := HJ1.out; omega) ⟨by decide, by decide⟩ B1 (by have := HB0.out; have := HG1.out; omega) (fun hm => by
        rcases List.mem_cons.1 hm with h | h
        · have := HG1b.out; have := HG2.out; omega
        · have := HMM.out g1 h; have := HG1.out; omega)).mono ?_
      rintro e w14 ⟨rfl, BK, l, k2, FB⟩
      have HSD : Hid (w13.heap.size ≤ w14.heap.size) := k2.size
      replace F0 := F0.chg k2 (FB.2.1 _ _ F0)
      replace OX := OX.chg k2 (fun q hq => by obtain ⟨C, hC⟩ := ownR_blk OX hq; exact FB.2.1 q C hC)
      replace CC := CC.trans k2 (fun q hq => Or.inr (Nat.le_trans HGB.out (FB.1 q hq)))
      clear k2 FB l
      go_wp2_with fail
      refine ⟨⟨i + 1, J + 1 + 1, g1 :: g2 :: M, HI1.out, by have := HJ.out; omega, rfl, fun y hy => ?_, BK, OX, F0, CC, ?_⟩, HMs.out⟩
      · have := HSA.out; have := HSB.out; have := HSC.out; have := HSD.out; have := HG1b.out; have := HG2b.out
        rcases List.mem_cons.1 hy with h | hy
        · omega
        · rcases List.mem_cons.1 hy with h | hy
          · omega
          · have := HMM.out y hy; omega
      · have := HSA.out; have := HSB.out; have := HSC.out; have := HSD.out; have := HB0.out; omega
end Go.Proofs.Ytcdgkhejbdlapab
