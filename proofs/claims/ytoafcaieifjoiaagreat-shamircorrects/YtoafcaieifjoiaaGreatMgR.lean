/- Joined: RWt, RTh1, RTh2. -/
import Derived.Test.YtoafcaieifjoiaaGreatMgH
import Derived.Test.YtoafcaieifjoiaaGreatMgMW
import Derived.Test.YtoafcaieifjoiaaGreatMgP
import Derived.Test.YtoafcaieifjoiaaGreatShCn
import Derived.Test.YtoafcaieifjoiaaGreatMgM
/- rimeref07.places, weight, Weights, Lagrange. -/
set_option linter.unusedVariables false
set_option linter.unusedSimpArgs false
set_option linter.unnecessarySimpa false
namespace Go.Proofs.YtoafcaieifjoiaaGreat
open Go.RowKit N

/-- The first k, as a list. -/
def liL (d : Nat → Int) (k : Nat) : List Int := (List.range k).map d
theorem liL_len (d : Nat → Int) (k : Nat) : (liL d k).length = k := by simp [liL]
theorem liL_s (d : Nat → Int) (k : Nat) : liL d (k + 1) = liL d k ++ [d k] := by simp [liL, List.range_succ]
theorem liL_get (d : Nat → Int) (k j : Nat) (h : j < k) : (liL d k).getD j 0 = d j := by simp [liL, List.getD_eq_getElem?_getD, h]
theorem Os.pl {w : World} {base : Nat} {v : Value} {d : Nat → Int} {N : Nat} (O : Os w base v (liL d N)) (hr : ∀ j, j < N → R256 (d j)) : Ls w v N (nT d) := by
  have q := O.ls (fun j hj => by rw [liL_len] at hj; rw [liL_get _ _ _ hj]; exact hr j hj)
  rw [liL_len] at q
  exact q.congr fun j hj => by rw [liL_get _ _ _ hj]; rfl
set_option maxHeartbeats 8000000 in
set_option maxRecDepth 100000 in
theorem places_r (v : Value) (N : Nat) (d : Nat → Int) (hN : N ≤ 2000000) (hd : ∀ i, i < N → 1 ≤ d i ∧ d i ≤ 255) (w : World) (hL : Il w v N d) :
    Calls Tryz.prog 67 #[v] w fun e w' => ∃ r, e = .returned r ∧ Os w' w.heap.size r (liL d N) ∧ Chg w w' [] := by
  obtain ⟨p, cp, rfl, hp⟩ := hL.form
  have HP : Hid (∀ i, i < N → ∃ g o, p = some ⟨g, o, none⟩ ∧ g < w.heap.size ∧ w.cell? ⟨g, o + i, none⟩ = some (.int .i64 (d i))) := hp
  have HN : Hid (N ≤ 2000000) := hN
  have HD : Hid (∀ i, i < N → 1 ≤ d i ∧ d i ≤ 255) := hd
  obtain ⟨ie, hie, hiz, his, hib⟩ := scRowL
  have O0 : Os w w.heap.size (.slice none 0 0) (liL d 0) := OwnR.nil _ _ _ _ _
  clear hp hL hN hd
  go_enter Tryz.func67, Tryz.ntmps67
  go_wp2_with fail
  go_loopw [3, 4] (fun t3 t wr => ∃ i : Nat, i ≤ N ∧ t = .int .i64 (i : Int) ∧ Os wr w.heap.size t3 (liL d i) ∧ Chg w wr []) (fun _ t _ => (N - intOf t).toNat)
  case atStart => exact ⟨0, Nat.zero_le _, rfl, O0, Chg.refl w []⟩
  case round =>
    clear O0
    obtain ⟨i, hi, rfl, O, C⟩ := hrel
    by_cases h : i < N
    · have hI : (i : Int) < (N : Int) := by omega
      have hI0 : (0 : Int) ≤ (i : Int) := by omega
      have e1 : IntKind.i64.wrap ((i : Int) + 1) = (i : Int) + 1 := by have := HN.out; rw [IntKind.wrap_i64]; omega
      have HMs : Hid _ := mN N i h
      have HI1 : Hid (i + 1 ≤ N) := h
      have HPl : Hid (0 ≤ d i ∧ d i < 9223372036854775808) := by have := HD.out i h; show 0 ≤ d i ∧ d i < 9223372036854775808; omega
      obtain ⟨g, o, rfl, hg, hF⟩ := HP.out i h
      have hF' := cell_chg hF hg C (by simp)
      have HOB : Hid (∀ i, i ∈ ob u3 → w.heap.size ≤ i) := fun i hi => (ob_own O i hi).1
      have HCz : Hid (w.heap.size ≤ wr.heap.size) := C.size
      clear hF hg h hi
      go_wp2_with fail
      refine (Place_r (d i) HPl.out _).mono ?_
      rintro e w1 ⟨rfl, k1⟩
      go_wp2_with (first
        | (with_reducible refine bslice_w ?_ 22 24 (.tmp 16) ?_ (fe (d i)) ?_ (feC (d i)) ie (.agg z32) Tryz.underlying22 hie hiz 32 his ?_ ?_ (fill_sc _) ?_
           · rfl
           · rfl
           · rfl
           · omega
           · omega
           intro gx w2 hgx Bg k2)
        | (with_reducible refine append_os ?_ (.tmp 11) (.tmp 17) ?_ w.heap.size u3 gx (liL d i) (d i) ?_ ?_ ((O.chg k1).chg k2) Bg ?_ ?_ ?_
           · rfl
           · rfl
           · rfl
           · rfl
           · rw [liL_len]; have := HN.out; have := HI1.out; omega
           · have := HCz.out; have := k1.size; have := k2.size; omega
           intro v7 w7 O7 k7))
      have C7 : Chg w w7 [] := ((C.trans1 k1).trans1 k2).trans k7 (fun i hi => Or.inr (HOB.out i hi))
      rw [← liL_s] at O7
      clear k1 k2 k7 O C Bg hgx hF'
      go_roundw
      case rel => exact ⟨i + 1, HI1.out, by go_num, O7, C7⟩
      case measure => exact HMs.out
    · obtain rfl : i = N := by omega
      have hI : ¬ (i : Int) < (i : Int) := by omega
      go_wp2_with fail
      go_ret
      exact ⟨_, rfl, O, C⟩
theorem iv_r (m : Nat) : R256 (iv (m : Int)) := r256_rl (pw_rl _ _)
theorem FromInt_1 (w : World) : Calls Tryz.prog 93 #[.int .u64 1] w fun e w' => e = .returned (fe 1) ∧ Chg w w' [] := FromInt_q 1 (by decide) w
end Go.Proofs.YtoafcaieifjoiaaGreat

/- rimeref07.times. -/
namespace Go.Proofs.YtoafcaieifjoiaaGreat
open Go.RowKit N

set_option maxHeartbeats 16000000 in
set_option maxRecDepth 100000 in
theorem times_r (v : Value) (N : Nat) (c : Nat → Int) (hc : ∀ j, j < N → R256 (c j)) (hN : N ≤ 1000000) (a : Int) (ra : R256 a) (w : World) (hL : Ls w v N (nT c)) :
    Calls Tryz.prog 113 #[v, fe a] w fun e w' => ∃ g, w.heap.size ≤ g ∧ e = .returned (.slice (some ⟨g, 0, none⟩) (N + 1) (N + 1)) ∧ Sb w' g (N + 1) (tms c a N) ∧ Chg w w' [] := by
  obtain ⟨p, cp, rfl, hp⟩ := hL.range
  have HP : Hid (∀ i, i < N → ∃ g o, p = some ⟨g, o, none⟩ ∧ g < w.heap.size ∧ w.rangeAt g (o + i * 32) (feL (c i))) := fun i hi => by
    obtain ⟨g, o, h1, h2, h3⟩ := hp i hi
    rw [nT_c _ _ (hc i hi).1] at h3
    exact ⟨g, o, h1, h2, h3⟩
  have HRC : Hid (∀ j, j < N → R256 (c j)) := hc
  have HN : Hid (N ≤ 1000000) := hN
  have HRa : Hid (R256 a) := ra
  obtain ⟨M, hM⟩ : ∃ M, N + 1 = M := ⟨_, rfl⟩
  have HM : Hid (N + 1 = M) := hM
  have e0 : IntKind.i64.wrap ((N : Int) + 1) = (M : Int) := by rw [IntKind.wrap_i64]; omega
  rw [hM]
  clear hp hL hc hN ra hM
  go_enter Tryz.func113, Tryz.ntmps113
  go_wp2_with (first
    | (refine box_w rfl 24 _ rfl (feC a) rfl ?_; intro ab w1 hab Ba k1)
    | (refine make_w rfl _ _ rfl M (by have := HN.out; have := HM.out; omega) rfl rfl ?_; intro g w2 hg S0 k2))
  have C : Chg w w2 [] := k1.trans1 k2
  have HG : Hid (w.heap.size ≤ g) := by have := k1.size; show w.heap.size ≤ g; omega
  have HAG : Hid (¬ ab ∈ [g]) := by have := Ba.lt; show ¬ ab ∈ [g]; simp; omega
  replace Ba := Ba.chg k2 (by simp)
  have S1 : Sb w2 g M (tmi c a 0) := S0.congr (fun j _ => (tmi_0 c a j).symm)
  clear k1 k2 S0 hab hg
  go_loopw [6] (fun t wr => ∃ i : Nat, i ≤ N ∧ t = .int .i64 (i : Int) ∧ Sb wr g M (tmi c a i) ∧ Blk wr ab (feC a) 24 ∧ Chg w wr []) (fun t _ => (N - intOf t).toNat)
  case atStart => exact ⟨0, Nat.zero_le _, rfl, S1, Ba, C⟩
  case round =>
    clear S1 Ba C
    obtain ⟨i, hi, rfl, S, Ba, C⟩ := hrel
    by_cases h : i < N
    · have hI : (i : Int) < (N : Int) := by omega
      have hI0 : (0 : Int) ≤ (i : Int) := by omega
      have hIM : (i : Int) < (M : Int) := by have := HM.out; omega
      have hI1 : (i : Int) + 1 < (M : Int) := by have := HM.out; omega
      have hI2 : (0 : Int) ≤ (i : Int) + 1 := by omega
      have hI3 : i + 1 < M := by have := HM.out; omega
      have e1 : IntKind.i64.wrap ((i : Int) + 1) = (i : Int) + 1 := by have := HN.out; rw [IntKind.wrap_i64]; omega
      have HMs : Hid _ := mN N i h
      have HI : Hid (i < N) := h
      have HI2 : Hid (i < M) := by have := HM.out; show i < M; omega
      have HI3 : Hid (i + 1 < M) := hI3
      have HRc : Hid (R256 (c i)) := HRC.out i h
      have HRq : Hid (R256 (qv c i)) := r256_rl (qv_rl c i)
      have HT0 : Hid (tmi c a i (i + 1) = 0) := tmi_next c a i
      have HMd : Hid (upS (tmi c a i) (i + 1) (ad 0 (c i)) i = qv c i) := tmi_mid c a i
      obtain ⟨gp, o, rfl, hg, hF⟩ := HP.out i h
      have hF' := rangeAt_chg hF hg C (by simp)
      have HGl : Hid (gp < wr.heap.size) := Nat.lt_of_lt_of_le hg C.size
      have HGG : Hid (¬ gp ∈ [g]) := by have := HG.out; show ¬ gp ∈ [g]; simp; omega
      clear hF hg h hi
      go_wp2_with fail
      refine wp_region_held_drew (S := fun w' => Chg wr w' [g]) (by kernel_rfl) ((Chg.refl wr _).drew) (fun hHeld => ?_)
      replace S : Sb wr.drew g M (tmi c a i) := S
      refine tv (v := ?_) 0 (some 17) rfl (by kernel_rfl) (fun _ _ _ h => h) rfl rfl (fun w hSw => ?_) hHeld ?_; rotate_left; (· (go_simp; try with_reducible rfl)); try simp only [Act.put, sA1, sA2, sA3]
      refine tv (v := ?_) 1 (some 18) rfl (by kernel_rfl) (fun _ _ _ h => h) rfl rfl (fun w hSw => ?_) hHeld ?_; rotate_left; (· (go_simp; try with_reducible rfl)); try simp only [Act.put, sA1, sA2, sA3]
      refine tv (v := ?_) 2 (some 19) rfl (by kernel_rfl) (fun _ _ _ h => h) rfl rfl (fun w hSw => ?_) hHeld ?_; rotate_left; (· (go_simp; try with_reducible rfl)); try simp only [Act.put, sA1, sA2, sA3]
      refine tv (v := ?_) 3 (some 20) rfl (by kernel_rfl) (fun _ _ _ h => h) rfl rfl (fun w hSw => ?_) hHeld ?_; rotate_left; (· (go_simp; try with_reducible rfl)); try simp only [Act.put, sA1, sA2, sA3]
      refine tv (v := ?_) 4 (some 21) rfl (by kernel_rfl) (fun _ _ _ h => h) rfl rfl (fun w hSw => ?_) hHeld ?_; rotate_left; (· (go_simp; try with_reducible rfl)); try simp only [Act.put, sA1, sA2, sA3]
      refine tv (v := ?_) 5 (some 22) rfl (by kernel_rfl) (fun _ _ _ h => h) rfl rfl (fun w hSw => ?_) hHeld ?_; rotate_left; (· (go_simp; try with_reducible rfl)); try simp only [Act.put, sA1, sA2, sA3]
      refine tv (v := ?_) 6 (some 23) rfl (by kernel_rfl) (fun _ _ _ h => h) rfl rfl (fun w hSw => ?_) hHeld ?_; rotate_left; (· (go_simp; try with_reducible rfl)); try simp only [Act.put, sA1, sA2, sA3]
      refine tv (v := ?_) 8 (some 25) rfl (by kernel_rfl) (fun _ _ _ h => h) rfl rfl (fun w hSw => ?_) hHeld ?_; rotate_left; (· (go_simp; try with_reducible rfl)); try simp only [Act.put, sA1, sA2, sA3]
      refine tv (v := ?_) 9 (some 26) rfl (by kernel_rfl) (fun _ _ _ h => h) rfl rfl (fun w hSw => ?_) hHeld ?_; rotate_left; (· (go_simp; try with_reducible rfl)); try simp only [Act.put, sA1, sA2, sA3]
      refine tv (v := ?_) 10 (some 27) rfl (by kernel_rfl) (fun _ _ _ h => h) rfl rfl (fun w hSw => ?_) hHeld ?_; rotate_left; (· (go_simp; try with_reducible rfl)); try simp only [Act.put, sA1, sA2, sA3]
      refine tv (v := (.agg (feC (c i)))) 11 (some 28) rfl (by kernel_rfl) (fun _ _ _ h => h) rfl rfl (fun w hSw => ?_) hHeld ?_
      · exact exec_load_m w 24 _ rfl gp (o + i * 32) rfl (feL (c i)) _ (rangeAt_chg hF' HGl.out hSw HGG.out) Tryz.underlying24 rfl feInfo
      try simp only [Act.put, sA1, sA2, sA3]
      refine wpAnyH_ready (rs := [7]) (by kernel_rfl) (by simp) ?_
      refine AllReadyH.cons (o := _) rfl (fun K hK => ?_) ?_
      ·
        rw [if_pos (by rfl)]
        refine wp_load_mid 24 _ rfl g ((i + 1) * 32) rfl (feL (0)) _ (HT0.out ▸ S.range HI3.out) Tryz.underlying24 rfl feInfo ?_
        refine hK.out _ _ (hHeld) (fun hHeld => ?_)
        clear hK K
        try simp only [Act.put, sA1, sA2, sA3]
        refine wpAnyH_ready (rs := [12]) (by kernel_rfl) (by simp) ?_
        refine AllReadyH.cons (o := _) rfl (fun K hK => ?_) ?_
        ·
          go_simp
          refine (Add_q _ _ r256_c0 HRc.out _).mono ?_
          rintro e w5 ⟨rfl, k⟩
          replace S := S.chg k (by simp)
          go_wp2_with fail
          refine hK.out _ _ (hHeld.trans1 k.wide) (fun hHeld => ?_)
          clear hK K
          try simp only [Act.put, sA1, sA2, sA3]
          clear k
          refine tv (v := ?_) 13 (some 30) rfl (by kernel_rfl) (fun _ _ _ h => h) rfl rfl (fun w hSw => ?_) hHeld ?_; rotate_left; (· (go_simp; try with_reducible rfl)); try simp only [Act.put, sA1, sA2, sA3]
          refine wpAnyH_ready (rs := [14]) (by kernel_rfl) (by simp) ?_
          refine AllReadyH.cons (o := _) rfl (fun K hK => ?_) ?_
          ·
            rw [if_pos (by rfl)]
            refine wp_store_sb _ _ rfl g M (i + 1) _ _ rfl rfl S HI3.out ?_
            intro w7 S7 k6
            refine hK.out _ _ (hHeld.trans1 k6) (fun hHeld => ?_)
            clear hK K
            try simp only [Act.put, sA1, sA2, sA3]
            refine wpAnyH_done (by kernel_rfl) ?_ _
            have hF7 := rangeAt_chg hF' HGl.out hHeld HGG.out
            have HG7 : Hid (gp < w7.heap.size) := Nat.lt_of_lt_of_le HGl.out hHeld.size
            replace C := C.new hHeld HG.out
            replace Ba := Ba.chg hHeld HAG.out
            clear S k6 hHeld hF'
            go_wp2_with fail
            refine wp_region_held_drew (S := fun w' => Chg w7 w' [g]) (by kernel_rfl) ((Chg.refl w7 _).drew) (fun hHeld => ?_)
            replace S7 : Sb w7.drew g M (upS (tmi c a i) (i + 1) (ad 0 (c i))) := S7
            refine tv (v := ?_) 0 (some 31) rfl (by kernel_rfl) (fun _ _ _ h => h) rfl rfl (fun w hSw => ?_) hHeld ?_; rotate_left; (· (go_simp; try with_reducible rfl)); try simp only [Act.put, sA1, sA2, sA3]
            refine tv (v := ?_) 1 (some 32) rfl (by kernel_rfl) (fun _ _ _ h => h) rfl rfl (fun w hSw => ?_) hHeld ?_; rotate_left; (· (go_simp; try with_reducible rfl)); try simp only [Act.put, sA1, sA2, sA3]
            refine tv (v := ?_) 2 (some 33) rfl (by kernel_rfl) (fun _ _ _ h => h) rfl rfl (fun w hSw => ?_) hHeld ?_; rotate_left; (· (go_simp; try with_reducible rfl)); try simp only [Act.put, sA1, sA2, sA3]
            refine tv (v := ?_) 3 (some 34) rfl (by kernel_rfl) (fun _ _ _ h => h) rfl rfl (fun w hSw => ?_) hHeld ?_; rotate_left; (· (go_simp; try with_reducible rfl)); try simp only [Act.put, sA1, sA2, sA3]
            refine tv (v := ?_) 4 (some 35) rfl (by kernel_rfl) (fun _ _ _ h => h) rfl rfl (fun w hSw => ?_) hHeld ?_; rotate_left; (· (go_simp; try with_reducible rfl)); try simp only [Act.put, sA1, sA2, sA3]
            refine take_load 6 (some 37) (feC a) rfl (by kernel_rfl) (by kernel_rfl) (by kernel_rfl) (fun _ _ _ h => h) rfl rfl 24 _ rfl ab rfl 24 _ (fun w h => Ba.chg h HAG.out) Tryz.underlying24 rfl (by first | exact feInfo | kernel_rfl) hHeld ?_
            try simp only [Act.put, sA1, sA2, sA3]
            refine tv (v := ?_) 7 (some 38) rfl (by kernel_rfl) (fun _ _ _ h => h) rfl rfl (fun w hSw => ?_) hHeld ?_; rotate_left; (· (go_simp; try with_reducible rfl)); try simp only [Act.put, sA1, sA2, sA3]
            refine tv (v := ?_) 8 (some 39) rfl (by kernel_rfl) (fun _ _ _ h => h) rfl rfl (fun w hSw => ?_) hHeld ?_; rotate_left; (· (go_simp; try with_reducible rfl)); try simp only [Act.put, sA1, sA2, sA3]
            refine tv (v := ?_) 9 (some 40) rfl (by kernel_rfl) (fun _ _ _ h => h) rfl rfl (fun w hSw => ?_) hHeld ?_; rotate_left; (· (go_simp; try with_reducible rfl)); try simp only [Act.put, sA1, sA2, sA3]
            refine tv (v := (.agg (feC (c i)))) 10 (some 41) rfl (by kernel_rfl) (fun _ _ _ h => h) rfl rfl (fun w hSw => ?_) hHeld ?_
            · exact exec_load_m w 24 _ rfl gp (o + i * 32) rfl (feL (c i)) _ (rangeAt_chg hF7 HG7.out hSw HGG.out) Tryz.underlying24 rfl feInfo
            try simp only [Act.put, sA1, sA2, sA3]
            refine wpAnyH_ready (rs := [5, 11]) (by kernel_rfl) (by simp) ?_
            refine AllReadyH.cons (o := _) rfl (fun K hK => ?_) ?_
            ·
              rw [if_pos (by rfl)]
              refine wp_load_mid 24 _ rfl g (i * 32) rfl (feL (qv c i)) _ (HMd.out ▸ S7.range HI2.out) Tryz.underlying24 rfl feInfo ?_
              refine hK.out _ _ (hHeld) (fun hHeld => ?_)
              clear hK K
              try simp only [Act.put, sA1, sA2, sA3]
              refine wpAnyH_ready (rs := [11]) (by kernel_rfl) (by simp) ?_
              refine AllReadyH.cons (o := _) rfl (fun K hK => ?_) ?_
              ·
                go_simp
                refine (Mul_q _ _ HRa.out HRc.out _).mono ?_
                rintro e w5 ⟨rfl, k⟩
                replace S7 := S7.chg k (by simp)
                go_wp2_with fail
                refine hK.out _ _ (hHeld.trans1 k.wide) (fun hHeld => ?_)
                clear hK K
                try simp only [Act.put, sA1, sA2, sA3]
                clear k
                refine wpAnyH_ready (rs := [12]) (by kernel_rfl) (by simp) ?_
                refine AllReadyH.cons (o := _) rfl (fun K hK => ?_) ?_
                ·
                  go_simp
                  refine (Sub_q _ _ HRq.out (r256_mod _) _).mono ?_
                  rintro e w5 ⟨rfl, k⟩
                  replace S7 := S7.chg k (by simp)
                  go_wp2_with fail
                  refine hK.out _ _ (hHeld.trans1 k.wide) (fun hHeld => ?_)
                  clear hK K
                  try simp only [Act.put, sA1, sA2, sA3]
                  clear k
                  refine tv (v := ?_) 13 (some 44) rfl (by kernel_rfl) (fun _ _ _ h => h) rfl rfl (fun w hSw => ?_) hHeld ?_; rotate_left; (· (go_simp; try with_reducible rfl)); try simp only [Act.put, sA1, sA2, sA3]
                  refine wpAnyH_ready (rs := [14]) (by kernel_rfl) (by simp) ?_
                  refine AllReadyH.cons (o := _) rfl (fun K hK => ?_) ?_
                  ·
                    rw [if_pos (by rfl)]
                    refine wp_store_sb _ _ rfl g M i _ _ rfl rfl S7 HI2.out ?_
                    intro w8 S8 k8
                    refine hK.out _ _ (hHeld.trans1 k8) (fun hHeld => ?_)
                    clear hK K
                    try simp only [Act.put, sA1, sA2, sA3]
                    refine wpAnyH_done (by kernel_rfl) ?_ _
                    replace C := C.new hHeld HG.out
                    replace Ba := Ba.chg hHeld HAG.out
                    clear S7 k8 hHeld hF7
                    go_wp2_with fail
                    go_roundw
                    case rel => exact ⟨i + 1, HI.out, by go_num, S8.congr (fun j _ => tmi_step c a i j), Ba, C⟩
                    case measure => exact HMs.out
                  exact AllReadyH.nil
                exact AllReadyH.nil
              exact AllReadyH.nil
            refine AllReadyH.cons (o := _) rfl (fun K hK => ?_) ?_
            ·
              go_simp
              refine (Mul_q _ _ HRa.out HRc.out _).mono ?_
              rintro e w5 ⟨rfl, k⟩
              replace S7 := S7.chg k (by simp)
              go_wp2_with fail
              refine hK.out _ _ (hHeld.trans1 k.wide) (fun hHeld => ?_)
              clear hK K
              try simp only [Act.put, sA1, sA2, sA3]
              clear k
              refine wpAnyH_ready (rs := [5]) (by kernel_rfl) (by simp) ?_
              refine AllReadyH.cons (o := _) rfl (fun K hK => ?_) ?_
              ·
                rw [if_pos (by rfl)]
                refine wp_load_mid 24 _ rfl g (i * 32) rfl (feL (qv c i)) _ (HMd.out ▸ S7.range HI2.out) Tryz.underlying24 rfl feInfo ?_
                refine hK.out _ _ (hHeld) (fun hHeld => ?_)
                clear hK K
                try simp only [Act.put, sA1, sA2, sA3]
                refine wpAnyH_ready (rs := [12]) (by kernel_rfl) (by simp) ?_
                refine AllReadyH.cons (o := _) rfl (fun K hK => ?_) ?_
                ·
                  go_simp
                  refine (Sub_q _ _ HRq.out (r256_mod _) _).mono ?_
                  rintro e w5 ⟨rfl, k⟩
                  replace S7 := S7.chg k (by simp)
                  go_wp2_with fail
                  refine hK.out _ _ (hHeld.trans1 k.wide) (fun hHeld => ?_)
                  clear hK K
                  try simp only [Act.put, sA1, sA2, sA3]
                  clear k
                  refine tv (v := ?_) 13 (some 44) rfl (by kernel_rfl) (fun _ _ _ h => h) rfl rfl (fun w hSw => ?_) hHeld ?_; rotate_left; (· (go_simp; try with_reducible rfl)); try simp only [Act.put, sA1, sA2, sA3]
                  refine wpAnyH_ready (rs := [14]) (by kernel_rfl) (by simp) ?_
                  refine AllReadyH.cons (o := _) rfl (fun K hK => ?_) ?_
                  ·
                    rw [if_pos (by rfl)]
                    refine wp_store_sb _ _ rfl g M i _ _ rfl rfl S7 HI2.out ?_
                    intro w8 S8 k8
                    refine hK.out _ _ (hHeld.trans1 k8) (fun hHeld => ?_)
                    clear hK K
                    try simp only [Act.put, sA1, sA2, sA3]
                    refine wpAnyH_done (by kernel_rfl) ?_ _
                    replace C := C.new hHeld HG.out
                    replace Ba := Ba.chg hHeld HAG.out
                    clear S7 k8 hHeld hF7
                    go_wp2_with fail
                    go_roundw
                    case rel => exact ⟨i + 1, HI.out, by go_num, S8.congr (fun j _ => tmi_step c a i j), Ba, C⟩
                    case measure => exact HMs.out
                  exact AllReadyH.nil
                exact AllReadyH.nil
              exact AllReadyH.nil
            exact AllReadyH.nil
          exact AllReadyH.nil
        exact AllReadyH.nil
      exact AllReadyH.nil
    · obtain rfl : N = i := by omega
      have hI : ¬ (N : Int) < (N : Int) := by omega
      go_wp2_with fail
      go_ret
      exact ⟨g, HG.out, rfl, S.congr (fun j hj => tmi_N c a N j (by have := HM.out; omega)), C⟩
end Go.Proofs.YtoafcaieifjoiaaGreat

/- rimeref07.coefs. -/
namespace Go.Proofs.YtoafcaieifjoiaaGreat
open Go.RowKit N

set_option maxHeartbeats 64000000 in
set_option maxRecDepth 100000 in
theorem coefs_r (vx vy : Value) (N : Nat) (X Y : Nat → Int) (hX : ∀ j, j < N → R256 (X j)) (hY : ∀ j, j < N → R256 (Y j)) (hN : N ≤ 255) (hd : haveI := LN_nz; ∀ i j, i < N → j < N → zq LN (X i) = zq LN (X j) → i = j) (w : World) (hLx : Ls w vx N (nT X)) (hLy : Ls w vy N (nT Y)) :
    Calls Tryz.prog 86 #[vx, vy] w fun e w' => ∃ g, w.heap.size ≤ g ∧ e = .returned (.slice (some ⟨g, 0, none⟩) N N) ∧ Sb w' g N (oc X Y N N) ∧ Chg w w' [] := by
  obtain ⟨px, cx, rfl, hpx⟩ := hLx.range
  obtain ⟨py, cy, rfl, hpy⟩ := hLy.range
  have HPx : Hid (∀ i, i < N → ∃ g o, px = some ⟨g, o, none⟩ ∧ g < w.heap.size ∧ w.rangeAt g (o + i * 32) (feL (X i))) := fun i hi => by
    obtain ⟨g, o, h1, h2, h3⟩ := hpx i hi
    rw [nT_c _ _ (hX i hi).1] at h3
    exact ⟨g, o, h1, h2, h3⟩
  have HPy : Hid (∀ i, i < N → ∃ g o, py = some ⟨g, o, none⟩ ∧ g < w.heap.size ∧ w.rangeAt g (o + i * 32) (feL (Y i))) := fun i hi => by
    obtain ⟨g, o, h1, h2, h3⟩ := hpy i hi
    rw [nT_c _ _ (hY i hi).1] at h3
    exact ⟨g, o, h1, h2, h3⟩
  have HRX : Hid (∀ j, j < N → R256 (X j)) := hX
  have HRY : Hid (∀ j, j < N → R256 (Y j)) := hY
  have HN : Hid (N ≤ 255) := hN
  have HDz : Hid (∀ i, i < N → ¬ LN ∣ (tpv X i (X i) N).toNat) := fun i hi => tp_ne hi hd
  obtain ⟨ie, hie, hiz, his, _⟩ := scRowL
  clear hpx hpy hLx hLy hX hY hN hd
  go_enter Tryz.func86, Tryz.ntmps86
  go_wp2_with (refine make_w rfl _ _ rfl N (by have := HN.out; omega) rfl rfl ?_; intro g w1 hg S0 C)
  have HG : Hid (w.heap.size ≤ g) := hg
  have S1 : Sb w1 g N (oc X Y N 0) := S0
  clear S0 hg
  go_loopw [6] (fun t wr => ∃ i : Nat, i ≤ N ∧ t = .int .i64 (i : Int) ∧ Sb wr g N (oc X Y N i) ∧ Chg w wr []) (fun t _ => (N - intOf t).toNat)
  case atStart => exact ⟨0, Nat.zero_le _, rfl, S1, C⟩
  case round =>
    clear S1 C
    obtain ⟨i, hi, rfl, So, C⟩ := hrel
    by_cases h : i < N
    · have hI : (i : Int) < (N : Int) := by omega
      have hI0 : (0 : Int) ≤ (i : Int) := by omega
      have e1 : IntKind.i64.wrap ((i : Int) + 1) = (i : Int) + 1 := by have := HN.out; rw [IntKind.wrap_i64]; omega
      have HMs : Hid _ := mN N i h
      have HI : Hid (i < N) := h
      have HRi : Hid (R256 (X i)) := HRX.out i h
      have HRyi : Hid (R256 (Y i)) := HRY.out i h
      obtain ⟨m, hm⟩ := Int.eq_ofNat_of_zero_le (tpv_rl X i (X i) N).1
      have HMm : Hid (tpv X i (X i) N = (m : Int)) := hm
      obtain ⟨vi, hvi⟩ : ∃ vi, iv (m : Int) = vi := ⟨_, rfl⟩
      have HRv : Hid (R256 vi) := by rw [← hvi]; exact iv_r m
      have HInv : Hid (∀ W, Calls Tryz.prog 104 #[fe (m : Int)] W fun e w' => e = .returned (.tuple #[fe vi, .int .i64 0]) ∧ Chg W w' []) := fun W => by
        have hr : RL (m : Int) := hm ▸ tpv_rl X i (X i) N
        have hne : ¬ (m : Int) = 0 := fun e => HDz.out i h (by rw [hm, e]; exact Nat.dvd_zero _)
        have hq : cn (m : Int) = (m : Int) := mod_id hr
        rw [← hvi]
        exact Invert_rnot m (by have := (r256_rl hr).2; omega) (by rw [hq, eqn_eq hr rl_z, decide_eq_false hne]) W
      obtain ⟨F, hF⟩ : ∃ F, fcv X Y N i = F := ⟨_, rfl⟩
      have HFv : Hid (ml (Y i) vi = F) := by show ml (Y i) vi = F; rw [← hF, ← hvi, ← hm]; rfl
      have HRF : Hid (R256 F) := by rw [← hF]; exact r256_mod _
      have HO : Hid (∀ j, oc X Y N (i + 1) j = ma F (lpc X i N j) (oc X Y N i j)) := fun j => by rw [← hF]; rfl
      obtain ⟨gy, oy, rfl, hgy, hFy⟩ := HPy.out i h
      have HY0 : Hid (gy < w.heap.size ∧ w.rangeAt gy (oy + i * 32) (feL (Y i))) := ⟨hgy, hFy⟩
      clear hm hvi hF h hi hgy hFy
      go_wp2_with fail
      refine (FromInt_1 _).mono ?_
      rintro e w2 ⟨rfl, k2⟩
      replace C := C.trans1 k2
      replace So := So.chg k2 (by simp)
      clear k2
      go_wp2_with (first
        | (with_reducible refine bslice_w ?_ 22 24 (.tmp 23) ?_ (fe 1) ?_ (feC 1) ie (.agg z32) Tryz.underlying22 hie hiz 32 his ?_ ?_ (fill_sc 1) ?_
           · rfl
           · rfl
           · rfl
           · omega
           · omega
           intro zb w3 hzb Bz k3))
      have HZ0 : Hid (¬ zb = g) := by have := So.lt; show ¬ zb = g; omega
      replace C := C.trans1 k3
      replace So := So.chg k3 (by simp)
      have Sz0 : Sb w3 zb 1 (lpc X i 0) := sb_one Bz
      clear k3 hzb Bz
      refine (FromInt_1 _).mono ?_
      rintro e w4 ⟨rfl, k4⟩
      replace C := C.trans1 k4
      replace So := So.chg k4 (by simp)
      replace Sz0 := Sz0.chg k4 (by simp)
      clear k4
      go_upto_region 7 with (first
        | (with_reducible refine alloc_w rfl 24 rfl (.agg z32) zeroSc z32 rfl ?_; intro bb w5 hbb Bb0 k5)
        | (refine store_w Bb0 rfl 24 _ _ (feC (tpv X i (X i) 0)) rfl rfl rfl feInfo rfl (feC_one _) ?_; intro w6 Bb k6))
      have HBB : Hid (w.heap.size ≤ bb) := by have := C.size; show w.heap.size ≤ bb; omega
      have HOB : Hid (¬ g ∈ [bb]) := by have := So.lt; show ¬ g ∈ [bb]; simp; omega
      have HZB0 : Hid (¬ zb ∈ [bb]) := by have := Sz0.lt; show ¬ zb ∈ [bb]; simp; omega
      replace C := (C.trans1 k5).new k6 HBB.out
      replace So := (So.chg k5 (by simp)).chg k6 HOB.out
      replace Sz0 := (Sz0.chg k5 (by simp)).chg k6 HZB0.out
      have Sz1 : Sb w6 zb (lpn i 0) (lpc X i 0) := by rw [show lpn i 0 = 1 from if_neg (by omega)]; exact Sz0
      have hl0 : lpn i 0 = 1 := if_neg (by omega)
      clear k5 k6 Bb0 hbb Sz0
      go_wp2_with fail
      go_loopw [7, 9] (fun t7 t9 wr => ∃ (k zb : Nat), k ≤ N ∧ t9 = .int .i64 (k : Int) ∧ t7 = .slice (some ⟨zb, 0, none⟩) (lpn i k) (lpn i k) ∧ Sb wr zb (lpn i k) (lpc X i k) ∧ Blk wr bb (feC (tpv X i (X i) k)) 24 ∧ Sb wr g N (oc X Y N i) ∧ ¬ zb ∈ [bb] ∧ ¬ zb ∈ [g] ∧ Chg w wr []) (fun _ t9 _ => (N - intOf t9).toNat)
      case atStart => exact ⟨0, zb, Nat.zero_le _, rfl, by rw [hl0], Sz1, Bb, So, HZB0.out, by have := HZ0.out; simpa using this, C⟩
      case round =>
        clear Sz1 Bb So C HZB0 HZ0 hl0
        obtain ⟨k, zb, hk, rfl, rfl, Sz, Bb, So, hzb, hzg, C⟩ := hrel
        have HZB : Hid (¬ zb ∈ [bb]) := hzb
        have HZG : Hid (¬ zb ∈ [g]) := hzg
        clear hzb hzg
        by_cases h : k < N
        · have hK : (k : Int) < (N : Int) := by omega
          have hK0 : (0 : Int) ≤ (k : Int) := by omega
          have ek : IntKind.i64.wrap ((k : Int) + 1) = (k : Int) + 1 := by have := HN.out; rw [IntKind.wrap_i64]; omega
          have HMk : Hid _ := mN N k h
          have HK : Hid (k < N) := h
          by_cases hki : k = i
          · subst hki
            have hb : ((k : Int) != (k : Int)) = false := by simp
            have HLn : Hid (lpn k (k + 1) = lpn k k) := lpn_at k
            have HLc : Hid (lpc X k (k + 1) = lpc X k k) := lpc_at X k
            have HTa : Hid (tpv X k (X k) (k + 1) = tpv X k (X k) k) := tpv_at X k (X k)
            clear h hk
            go_wp2_with fail
            go_roundw
            case rel => exact ⟨k + 1, zb, HK.out, by go_num, by rw [HLn.out], by rw [HLn.out, HLc.out]; exact Sz, by rw [HTa.out]; exact Bb, So, HZB.out, HZG.out, C⟩
            case measure => exact HMk.out
          · have hb : ((k : Int) != (i : Int)) = true := by simp; omega
            have hki2 : ¬ (k : Int) = (i : Int) := by omega
            have HT2 : Hid (tpv X i (X i) (k + 1) = ml (tpv X i (X i) k) (sb (X i) (X k))) := tpv_other X i (X i) k hki
            have HLn : Hid (lpn i (k + 1) = lpn i k + 1) := lpn_other i k hki
            have HLc : Hid (lpc X i (k + 1) = tms (lpc X i k) (X k) (lpn i k)) := lpc_other X i k hki
            have HRk : Hid (R256 (X k)) := HRX.out k h
            have HLl : Hid (lpn i k ≤ 256) := by have := lpn_le i k; have := HN.out; show lpn i k ≤ 256; omega
            obtain ⟨gp, o, rfl, hg, hFk⟩ := HPx.out k h
            obtain ⟨gp', o', hpe, _, hFi⟩ := HPx.out i HI.out
            simp only [Option.some.injEq, Addr.mk.injEq, and_true] at hpe
            obtain ⟨rfl, rfl⟩ := hpe
            have hXk0 := rangeAt_chg hFk hg C (by simp)
            have hXi0 := rangeAt_chg hFi hg C (by simp)
            have HGl : Hid (gp < wr.heap.size) := Nat.lt_of_lt_of_le hg C.size
            have HGB : Hid (¬ gp ∈ [bb]) := by have := HBB.out; show ¬ gp ∈ [bb]; simp; omega
            have LZ := Sz.ls (by have := HLl.out; omega) (fun j _ => r256_rl (lpc_rl X i k j)) (Nat.le_refl _)
            clear hFk hFi hg h hk hki
            go_wp2_with (refine load_sc rfl (.tmp 38) rfl gp (o + k * 32) (X k) rfl hXk0 ?_)
            refine (times_r _ (lpn i k) (lpc X i k) (fun j _ => r256_rl (lpc_rl X i k j)) (by have := HLl.out; omega) (X k) HRk.out wr LZ).mono ?_
            rintro e wq ⟨zq, hzq, rfl, Sz2, k2⟩
            have hXk := rangeAt_chg hXk0 HGl.out k2 (by simp)
            have hXi := rangeAt_chg hXi0 HGl.out k2 (by simp)
            have HGq : Hid (gp < wq.heap.size) := Nat.lt_of_lt_of_le HGl.out k2.size
            have HZB : Hid (¬ zq ∈ [bb]) := by have := Bb.lt; show ¬ zq ∈ [bb]; simp; omega
            have HZG : Hid (¬ zq ∈ [g]) := by have := So.lt; show ¬ zq ∈ [g]; simp; omega
            replace C := C.trans1 k2
            replace Bb := Bb.chg k2 (by simp)
            replace So := So.chg k2 (by simp)
            clear k2 hzq Sz LZ hXk0 hXi0
            rename Sb wq zq _ _ => Sz
            go_wp2_with fail
            refine wp_region_held_drew (S := fun w' => Chg wq w' [bb]) (by kernel_rfl) ((Chg.refl wq _).drew) (fun hHeld => ?_)
            replace Bb : Blk wq.drew bb (feC (tpv X i (X i) k)) 24 := Bb
            refine tv (v := ?_) 1 (some 42) rfl (by kernel_rfl) (fun _ _ _ h => h) rfl rfl (fun w hSw => ?_) hHeld ?_; rotate_left; (· (go_simp; try with_reducible rfl)); try simp only [Act.put, sA1, sA2, sA3]
            refine tv (v := ?_) 2 (some 43) rfl (by kernel_rfl) (fun _ _ _ h => h) rfl rfl (fun w hSw => ?_) hHeld ?_; rotate_left; (· (go_simp; try with_reducible rfl)); try simp only [Act.put, sA1, sA2, sA3]
            refine tv (v := ?_) 3 (some 44) rfl (by kernel_rfl) (fun _ _ _ h => h) rfl rfl (fun w hSw => ?_) hHeld ?_; rotate_left; (· (go_simp; try with_reducible rfl)); try simp only [Act.put, sA1, sA2, sA3]
            refine tv (v := (.agg (feC (X i)))) 4 (some 45) rfl (by kernel_rfl) (fun _ _ _ h => h) rfl rfl (fun w hSw => ?_) hHeld ?_
            · exact exec_load_m w 24 _ rfl gp (o + i * 32) rfl (feL (X i)) _ (rangeAt_chg hXi HGq.out hSw HGB.out) Tryz.underlying24 rfl feInfo
            try simp only [Act.put, sA1, sA2, sA3]
            refine tv (v := ?_) 5 (some 46) rfl (by kernel_rfl) (fun _ _ _ h => h) rfl rfl (fun w hSw => ?_) hHeld ?_; rotate_left; (· (go_simp; try with_reducible rfl)); try simp only [Act.put, sA1, sA2, sA3]
            refine tv (v := ?_) 6 (some 47) rfl (by kernel_rfl) (fun _ _ _ h => h) rfl rfl (fun w hSw => ?_) hHeld ?_; rotate_left; (· (go_simp; try with_reducible rfl)); try simp only [Act.put, sA1, sA2, sA3]
            refine tv (v := ?_) 7 (some 48) rfl (by kernel_rfl) (fun _ _ _ h => h) rfl rfl (fun w hSw => ?_) hHeld ?_; rotate_left; (· (go_simp; try with_reducible rfl)); try simp only [Act.put, sA1, sA2, sA3]
            refine tv (v := (.agg (feC (X k)))) 8 (some 49) rfl (by kernel_rfl) (fun _ _ _ h => h) rfl rfl (fun w hSw => ?_) hHeld ?_
            · exact exec_load_m w 24 _ rfl gp (o + k * 32) rfl (feL (X k)) _ (rangeAt_chg hXk HGq.out hSw HGB.out) Tryz.underlying24 rfl feInfo
            try simp only [Act.put, sA1, sA2, sA3]
            refine wpAnyH_ready (rs := [0, 9]) (by kernel_rfl) (by simp) ?_
            refine AllReadyH.cons (o := _) rfl (fun K hK => ?_) ?_
            ·
              rw [if_pos (by rfl)]
              refine wp_load_mid 24 _ rfl bb (0) rfl (feL (tpv X i (X i) k)) _ (blk_range Bb) Tryz.underlying24 rfl feInfo ?_
              refine hK.out _ _ (hHeld) (fun hHeld => ?_)
              clear hK K
              try simp only [Act.put, sA1, sA2, sA3]
              refine wpAnyH_ready (rs := [9]) (by kernel_rfl) (by simp) ?_
              refine AllReadyH.cons (o := _) rfl (fun K hK => ?_) ?_
              ·
                go_simp
                refine (Sub_q _ _ HRi.out HRk.out _).mono ?_
                rintro e w5 ⟨rfl, kk⟩
                replace Bb := Bb.chg kk (by simp)
                go_wp2_with fail
                refine hK.out _ _ (hHeld.trans1 kk.wide) (fun hHeld => ?_)
                clear hK K
                try simp only [Act.put, sA1, sA2, sA3]
                clear kk
                refine wpAnyH_ready (rs := [10]) (by kernel_rfl) (by simp) ?_
                refine AllReadyH.cons (o := _) rfl (fun K hK => ?_) ?_
                ·
                  go_simp
                  refine (Mul_q _ _ (r256_rl (tpv_rl X i (X i) k)) (r256_mod _) _).mono ?_
                  rintro e w5 ⟨rfl, kk⟩
                  replace Bb := Bb.chg kk (by simp)
                  go_wp2_with fail
                  refine hK.out _ _ (hHeld.trans1 kk.wide) (fun hHeld => ?_)
                  clear hK K
                  try simp only [Act.put, sA1, sA2, sA3]
                  clear kk
                  refine wpAnyH_ready (rs := [11]) (by kernel_rfl) (by simp) ?_
                  refine AllReadyH.cons (o := _) rfl (fun K hK => ?_) ?_
                  ·
                    rw [if_pos (by rfl)]
                    refine wp_store_w Bb 24 _ _ (feC (ml (tpv X i (X i) k) (sb (X i) (X k)))) rfl rfl rfl feInfo rfl (feC_one _) ?_
                    intro w8 B8 k8
                    rw [← HT2.out] at B8
                    refine hK.out _ _ (hHeld.trans1 k8) (fun hHeld => ?_)
                    clear hK K
                    try simp only [Act.put, sA1, sA2, sA3]
                    refine wpAnyH_done (by kernel_rfl) ?_ _
                    replace C := C.new hHeld HBB.out
                    replace So := So.chg hHeld HOB.out
                    replace Sz := Sz.chg hHeld HZB.out
                    clear Bb k8 hHeld hXi hXk
                    go_wp2_with fail
                    go_roundw
                    case rel => exact ⟨k + 1, zq, HK.out, by go_num, by rw [HLn.out], by rw [HLn.out, HLc.out]; exact Sz, B8, So, HZB.out, HZG.out, C⟩
                    case measure => exact HMk.out
                  exact AllReadyH.nil
                exact AllReadyH.nil
              exact AllReadyH.nil
            refine AllReadyH.cons (o := _) rfl (fun K hK => ?_) ?_
            ·
              go_simp
              refine (Sub_q _ _ HRi.out HRk.out _).mono ?_
              rintro e w5 ⟨rfl, kk⟩
              replace Bb := Bb.chg kk (by simp)
              go_wp2_with fail
              refine hK.out _ _ (hHeld.trans1 kk.wide) (fun hHeld => ?_)
              clear hK K
              try simp only [Act.put, sA1, sA2, sA3]
              clear kk
              refine wpAnyH_ready (rs := [0]) (by kernel_rfl) (by simp) ?_
              refine AllReadyH.cons (o := _) rfl (fun K hK => ?_) ?_
              ·
                rw [if_pos (by rfl)]
                refine wp_load_mid 24 _ rfl bb (0) rfl (feL (tpv X i (X i) k)) _ (blk_range Bb) Tryz.underlying24 rfl feInfo ?_
                refine hK.out _ _ (hHeld) (fun hHeld => ?_)
                clear hK K
                try simp only [Act.put, sA1, sA2, sA3]
                refine wpAnyH_ready (rs := [10]) (by kernel_rfl) (by simp) ?_
                refine AllReadyH.cons (o := _) rfl (fun K hK => ?_) ?_
                ·
                  go_simp
                  refine (Mul_q _ _ (r256_rl (tpv_rl X i (X i) k)) (r256_mod _) _).mono ?_
                  rintro e w5 ⟨rfl, kk⟩
                  replace Bb := Bb.chg kk (by simp)
                  go_wp2_with fail
                  refine hK.out _ _ (hHeld.trans1 kk.wide) (fun hHeld => ?_)
                  clear hK K
                  try simp only [Act.put, sA1, sA2, sA3]
                  clear kk
                  refine wpAnyH_ready (rs := [11]) (by kernel_rfl) (by simp) ?_
                  refine AllReadyH.cons (o := _) rfl (fun K hK => ?_) ?_
                  ·
                    rw [if_pos (by rfl)]
                    refine wp_store_w Bb 24 _ _ (feC (ml (tpv X i (X i) k) (sb (X i) (X k)))) rfl rfl rfl feInfo rfl (feC_one _) ?_
                    intro w8 B8 k8
                    rw [← HT2.out] at B8
                    refine hK.out _ _ (hHeld.trans1 k8) (fun hHeld => ?_)
                    clear hK K
                    try simp only [Act.put, sA1, sA2, sA3]
                    refine wpAnyH_done (by kernel_rfl) ?_ _
                    replace C := C.new hHeld HBB.out
                    replace So := So.chg hHeld HOB.out
                    replace Sz := Sz.chg hHeld HZB.out
                    clear Bb k8 hHeld hXi hXk
                    go_wp2_with fail
                    go_roundw
                    case rel => exact ⟨k + 1, zq, HK.out, by go_num, by rw [HLn.out], by rw [HLn.out, HLc.out]; exact Sz, B8, So, HZB.out, HZG.out, C⟩
                    case measure => exact HMk.out
                  exact AllReadyH.nil
                exact AllReadyH.nil
              exact AllReadyH.nil
            exact AllReadyH.nil
        · obtain rfl : N = k := by omega
          have hK : ¬ (N : Int) < (N : Int) := by omega
          have hln : lpn i N = N := lpn_N HI.out
          rw [hln] at Sz ⊢
          rw [HMm.out] at Bb
          clear h hk hln
          go_wp2_with (first
            | (with_reducible refine load_b Bb 24 (.tmp 8) Tryz.underlying24 ?_ ?_ ?_ ?_ ?_ ?_
               · rfl
               · rfl
               · rfl
               · rfl
               · exact feInfo))
          refine (HInv.out _).mono ?_
          rintro e w7 ⟨rfl, k7⟩
          replace C := C.trans1 k7
          replace So := So.chg k7 (by simp)
          replace Sz := Sz.chg k7 (by simp)
          clear k7 Bb
          go_upto_region 14 with (first
            | (with_reducible refine alloc_w rfl 24 rfl (.agg z32) zeroSc z32 rfl ?_; intro vb w8 hvb Bv0 k8)
            | (refine store_w Bv0 rfl 24 _ _ (feC vi) rfl rfl rfl feInfo rfl (feC_one _) ?_; intro wv Bv k9))
          have HVB : Hid (w.heap.size ≤ vb) := by have := C.size; show w.heap.size ≤ vb; omega
          replace So := (So.chg k8 (by simp)).chg k9 (by have := So.lt; simp; omega)
          replace Sz := (Sz.chg k8 (by simp)).chg k9 (by have := Sz.lt; simp; omega)
          replace C := (C.trans1 k8).new k9 HVB.out
          clear k8 k9 Bv0 hvb
          have hYi := rangeAt_chg HY0.out.2 HY0.out.1 C (by simp)
          have HGy : Hid (gy < wv.heap.size) := Nat.lt_of_lt_of_le HY0.out.1 C.size
          try simp only [Act.put, sA1, sA2, sA3]
          go_cut [12] (fun t12 wc => ∃ fb, t12 = .pointer (some ⟨fb, 0, none⟩) ∧ Blk wc fb (feC F) 24 ∧ wv.heap.size ≤ fb ∧ Chg wv wc [])
          case first =>
            refine wp_region_held_drew (S := fun w' => Chg wv w' []) (by kernel_rfl) ((Chg.refl wv _).drew) (fun hHeld => ?_)
            refine tv (v := ?_) 0 (some 57) rfl (by kernel_rfl) (fun _ _ _ h => h) rfl rfl (fun w hSw => ?_) hHeld ?_; rotate_left; (· (go_simp; try with_reducible rfl)); try simp only [Act.put, sA1, sA2, sA3]
            refine tv (v := ?_) 1 (some 58) rfl (by kernel_rfl) (fun _ _ _ h => h) rfl rfl (fun w hSw => ?_) hHeld ?_; rotate_left; (· (go_simp; try with_reducible rfl)); try simp only [Act.put, sA1, sA2, sA3]
            refine tv (v := ?_) 2 (some 59) rfl (by kernel_rfl) (fun _ _ _ h => h) rfl rfl (fun w hSw => ?_) hHeld ?_; rotate_left; (· (go_simp; try with_reducible rfl)); try simp only [Act.put, sA1, sA2, sA3]
            refine tv (v := (.agg (feC (Y i)))) 3 (some 60) rfl (by kernel_rfl) (fun _ _ _ h => h) rfl rfl (fun w hSw => ?_) hHeld ?_
            · exact exec_load_m w 24 _ rfl gy (oy + i * 32) rfl (feL (Y i)) _ (rangeAt_chg hYi HGy.out hSw (by simp)) Tryz.underlying24 rfl feInfo
            try simp only [Act.put, sA1, sA2, sA3]
            refine take_load 4 (some 61) (feC vi) rfl (by kernel_rfl) (by kernel_rfl) (by kernel_rfl) (fun _ _ _ h => h) rfl rfl 24 _ rfl vb rfl 24 _ (fun w h => Bv.chg h (by simp)) Tryz.underlying24 rfl (by first | exact feInfo | kernel_rfl) hHeld ?_
            try simp only [Act.put, sA1, sA2, sA3]
            refine wpAnyH_ready (rs := [5, 6]) (by kernel_rfl) (by simp) ?_
            refine AllReadyH.cons (o := _) rfl (fun K hK => ?_) ?_
            ·
              go_simp
              refine (Mul_q _ _ HRyi.out HRv.out _).mono ?_
              rintro e w5 ⟨rfl, kk⟩
              rw [HFv.out]
              go_wp2_with fail
              refine hK.out _ _ (hHeld.trans1 kk) (fun hHeld => ?_)
              clear hK K
              try simp only [Act.put, sA1, sA2, sA3]
              clear kk
              refine wpAnyH_ready (rs := [6]) (by kernel_rfl) (by simp) ?_
              refine AllReadyH.cons (o := _) rfl (fun K hK => ?_) ?_
              ·
                rw [if_pos (by rfl)]
                refine wp_alloc_w 24 rfl (.agg z32) zeroSc z32 rfl ?_
                intro fb w6 hfb Bf k6
                change K (Act.put _ (some 12) _) _
                have HFN : Hid (wv.heap.size ≤ fb) := by have := hHeld.size; show wv.heap.size ≤ fb; omega
                refine hK.out _ _ (hHeld.trans1 k6) (fun hHeld => ?_)
                clear hK K
                try simp only [Act.put, sA1, sA2, sA3]
                clear k6 hfb
                refine wpAnyH_ready (rs := [7]) (by kernel_rfl) (by simp) ?_
                refine AllReadyH.cons (o := _) rfl (fun K hK => ?_) ?_
                ·
                  rw [if_pos (by rfl)]
                  refine wp_store_w Bf 24 _ _ (feC F) rfl rfl rfl feInfo rfl (feC_one _) ?_
                  intro w7 B7 k7
                  change K (Act.put _ none _) _
                  refine hK.out _ _ (hHeld.new k7 HFN.out) (fun hHeld => ?_)
                  clear hK K
                  try simp only [Act.put, sA1, sA2, sA3]
                  refine wpAnyH_done (by kernel_rfl) ?_ _
                  clear k7 Bf
                  go_wp2_with fail
                  go_meet
                  case rel => exact ⟨fb, rfl, B7, HFN.out, hHeld⟩
                exact AllReadyH.nil
              exact AllReadyH.nil
            refine AllReadyH.cons (o := _) rfl (fun K hK => ?_) ?_
            ·
              rw [if_pos (by rfl)]
              refine wp_alloc_w 24 rfl (.agg z32) zeroSc z32 rfl ?_
              intro fb w6 hfb Bf k6
              change K (Act.put _ (some 12) _) _
              have HFN : Hid (wv.heap.size ≤ fb) := by have := hHeld.size; show wv.heap.size ≤ fb; omega
              refine hK.out _ _ (hHeld.trans1 k6) (fun hHeld => ?_)
              clear hK K
              try simp only [Act.put, sA1, sA2, sA3]
              clear k6 hfb
              refine wpAnyH_ready (rs := [5]) (by kernel_rfl) (by simp) ?_
              refine AllReadyH.cons (o := _) rfl (fun K hK => ?_) ?_
              ·
                go_simp
                refine (Mul_q _ _ HRyi.out HRv.out _).mono ?_
                rintro e w5 ⟨rfl, kk⟩
                rw [HFv.out]
                go_wp2_with fail
                refine hK.out _ _ (hHeld.trans1 kk) (fun hHeld => ?_)
                clear hK K
                try simp only [Act.put, sA1, sA2, sA3]
                replace Bf := Bf.chg kk (by simp)
                clear kk
                refine wpAnyH_ready (rs := [7]) (by kernel_rfl) (by simp) ?_
                refine AllReadyH.cons (o := _) rfl (fun K hK => ?_) ?_
                ·
                  rw [if_pos (by rfl)]
                  refine wp_store_w Bf 24 _ _ (feC F) rfl rfl rfl feInfo rfl (feC_one _) ?_
                  intro w7 B7 k7
                  change K (Act.put _ none _) _
                  refine hK.out _ _ (hHeld.new k7 HFN.out) (fun hHeld => ?_)
                  clear hK K
                  try simp only [Act.put, sA1, sA2, sA3]
                  refine wpAnyH_done (by kernel_rfl) ?_ _
                  clear k7 Bf
                  go_wp2_with fail
                  go_meet
                  case rel => exact ⟨fb, rfl, B7, HFN.out, hHeld⟩
                exact AllReadyH.nil
              exact AllReadyH.nil
            exact AllReadyH.nil
          case rest =>
          obtain ⟨fb, rfl, Bf, hfb, kf⟩ := hcut
          have HFG : Hid (¬ fb ∈ [g]) := by have := So.lt; show ¬ fb ∈ [g]; simp; omega
          replace C := C.trans1 kf
          replace So := So.chg kf (by simp)
          replace Sz := Sz.chg kf (by simp)
          have HZG1 : Hid (¬ zb ∈ [g]) := HZG.out
          have So1 : Sb wc g N (mq (oc X Y N i) (oc X Y N (i + 1)) 0) := So.congr (fun j _ => (if_neg (by omega)).symm)
          clear kf hfb So hYi Bv
          go_wp2_with fail
          go_loopw [13] (fun t wr => ∃ k : Nat, k ≤ N ∧ t = .int .i64 (k : Int) ∧ Sb wr g N (mq (oc X Y N i) (oc X Y N (i + 1)) k) ∧ Blk wr fb (feC F) 24 ∧ Sb wr zb N (lpc X i N) ∧ Chg w wr []) (fun t _ => (N - intOf t).toNat)
          case atStart => exact ⟨0, Nat.zero_le _, rfl, So1, Bf, Sz, C⟩
          case round =>
            clear So1 Bf Sz C
            obtain ⟨k, hk, rfl, So, Bf, Sz, C⟩ := hrel
            by_cases h : k < N
            · have hK : (k : Int) < (N : Int) := by omega
              have hK0 : (0 : Int) ≤ (k : Int) := by omega
              have ek : IntKind.i64.wrap ((k : Int) + 1) = (k : Int) + 1 := by have := HN.out; rw [IntKind.wrap_i64]; omega
              have HMk : Hid _ := mN N k h
              have HK : Hid (k < N) := h
              have HMq : Hid (mq (oc X Y N i) (oc X Y N (i + 1)) k k = oc X Y N i k) := mq_at _ _ k
              clear h hk
              go_wp2_with fail
              refine wp_region_held_drew (S := fun w' => Chg wr w' [g]) (by kernel_rfl) ((Chg.refl wr _).drew) (fun hHeld => ?_)
              replace So : Sb wr.drew g N (mq (oc X Y N i) (oc X Y N (i + 1)) k) := So
              refine tv (v := ?_) 0 (some 69) rfl (by kernel_rfl) (fun _ _ _ h => h) rfl rfl (fun w hSw => ?_) hHeld ?_; rotate_left; (· (go_simp; try with_reducible rfl)); try simp only [Act.put, sA1, sA2, sA3]
              refine tv (v := ?_) 1 (some 70) rfl (by kernel_rfl) (fun _ _ _ h => h) rfl rfl (fun w hSw => ?_) hHeld ?_; rotate_left; (· (go_simp; try with_reducible rfl)); try simp only [Act.put, sA1, sA2, sA3]
              refine take_load 2 (some 71) (feC F) rfl (by kernel_rfl) (by kernel_rfl) (by kernel_rfl) (fun _ _ _ h => h) rfl rfl 24 _ rfl fb rfl 24 _ (fun w h => Bf.chg h HFG.out) Tryz.underlying24 rfl (by first | exact feInfo | kernel_rfl) hHeld ?_
              try simp only [Act.put, sA1, sA2, sA3]
              refine tv (v := ?_) 3 (some 72) rfl (by kernel_rfl) (fun _ _ _ h => h) rfl rfl (fun w hSw => ?_) hHeld ?_; rotate_left; (· (go_simp; try with_reducible rfl)); try simp only [Act.put, sA1, sA2, sA3]
              refine tv (v := ?_) 4 (some 73) rfl (by kernel_rfl) (fun _ _ _ h => h) rfl rfl (fun w hSw => ?_) hHeld ?_; rotate_left; (· (go_simp; try with_reducible rfl)); try simp only [Act.put, sA1, sA2, sA3]
              refine tv (v := ?_) 5 (some 74) rfl (by kernel_rfl) (fun _ _ _ h => h) rfl rfl (fun w hSw => ?_) hHeld ?_; rotate_left; (· (go_simp; try with_reducible rfl)); try simp only [Act.put, sA1, sA2, sA3]
              refine tv (v := (.agg (feC (lpc X i N k)))) 6 (some 75) rfl (by kernel_rfl) (fun _ _ _ h => h) rfl rfl (fun w hSw => ?_) hHeld ?_
              · exact exec_load_m w 24 _ rfl zb (k * 32) rfl (feL (lpc X i N k)) _ ((Sz.chg hSw HZG1.out).range HK.out) Tryz.underlying24 rfl feInfo
              try simp only [Act.put, sA1, sA2, sA3]
              refine tv (v := ?_) 7 (some 76) rfl (by kernel_rfl) (fun _ _ _ h => h) rfl rfl (fun w hSw => ?_) hHeld ?_; rotate_left; (· (go_simp; try with_reducible rfl)); try simp only [Act.put, sA1, sA2, sA3]
              refine tv (v := ?_) 8 (some 77) rfl (by kernel_rfl) (fun _ _ _ h => h) rfl rfl (fun w hSw => ?_) hHeld ?_; rotate_left; (· (go_simp; try with_reducible rfl)); try simp only [Act.put, sA1, sA2, sA3]
              refine tv (v := ?_) 9 (some 78) rfl (by kernel_rfl) (fun _ _ _ h => h) rfl rfl (fun w hSw => ?_) hHeld ?_; rotate_left; (· (go_simp; try with_reducible rfl)); try simp only [Act.put, sA1, sA2, sA3]
              refine wpAnyH_ready (rs := [10]) (by kernel_rfl) (by simp) ?_
              refine AllReadyH.cons (o := _) rfl (fun K hK => ?_) ?_
              ·
                rw [if_pos (by rfl)]
                refine wp_load_mid 24 _ rfl g (k * 32) rfl (feL (oc X Y N i k)) _ (HMq.out ▸ So.range HK.out) Tryz.underlying24 rfl feInfo ?_
                refine hK.out _ _ (hHeld) (fun hHeld => ?_)
                clear hK K
                try simp only [Act.put, sA1, sA2, sA3]
                refine wpAnyH_ready (rs := [11]) (by kernel_rfl) (by simp) ?_
                refine AllReadyH.cons (o := _) rfl (fun K hK => ?_) ?_
                ·
                  go_simp
                  refine (MulAdd_q _ _ _ HRF.out (r256_rl (lpc_rl X i N k)) (r256_rl (oc_rl X Y N i k)) _).mono ?_
                  rintro e w5 ⟨rfl, kk⟩
                  replace So := So.chg kk (by simp)
                  go_wp2_with fail
                  refine hK.out _ _ (hHeld.trans1 kk.wide) (fun hHeld => ?_)
                  clear hK K
                  try simp only [Act.put, sA1, sA2, sA3]
                  clear kk
                  refine tv (v := ?_) 12 (some 81) rfl (by kernel_rfl) (fun _ _ _ h => h) rfl rfl (fun w hSw => ?_) hHeld ?_; rotate_left; (· (go_simp; try with_reducible rfl)); try simp only [Act.put, sA1, sA2, sA3]
                  refine wpAnyH_ready (rs := [13]) (by kernel_rfl) (by simp) ?_
                  refine AllReadyH.cons (o := _) rfl (fun K hK => ?_) ?_
                  ·
                    rw [if_pos (by rfl)]
                    refine wp_store_sb _ _ rfl g N k _ _ rfl rfl So HK.out ?_
                    intro w7 S7 k6
                    refine hK.out _ _ (hHeld.trans1 k6) (fun hHeld => ?_)
                    clear hK K
                    try simp only [Act.put, sA1, sA2, sA3]
                    refine wpAnyH_done (by kernel_rfl) ?_ _
                    replace C := C.new hHeld HG.out
                    replace Bf := Bf.chg hHeld HFG.out
                    replace Sz := Sz.chg hHeld HZG1.out
                    clear So k6 hHeld
                    go_wp2_with fail
                    go_roundw
                    case rel => exact ⟨k + 1, HK.out, by go_num, S7.congr (fun j _ => by rw [← HO.out k]; exact mq_step _ _ k j), Bf, Sz, C⟩
                    case measure => exact HMk.out
                  exact AllReadyH.nil
                exact AllReadyH.nil
              exact AllReadyH.nil
            · obtain rfl : N = k := by omega
              have hK : ¬ (N : Int) < (N : Int) := by omega
              have S9 : Sb wr g N (oc X Y N (i + 1)) := So.congr (fun j hj => if_pos hj)
              clear h hk So
              go_wp2_with fail
              go_roundw
              case rel => exact ⟨i + 1, HI.out, by go_num, S9, C⟩
              case measure => exact HMs.out
    · obtain rfl : N = i := by omega
      have hI : ¬ (N : Int) < (N : Int) := by omega
      go_wp2_with fail
      go_ret
      exact ⟨g, HG.out, rfl, So, C⟩
end Go.Proofs.YtoafcaieifjoiaaGreat
