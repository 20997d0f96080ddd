/- shamir.withZero. -/
import Derived.Test.YtledggdoehnlcaaGreatMgD
set_option linter.unusedVariables false
set_option linter.unusedSimpArgs false
set_option linter.unnecessarySimpa false
namespace Go.Proofs.YtledggdoehnlcaaGreat
open Go.RowKit N

/-- The coefficient ahead. -/
def pv (f : Nat → Nat) (j : Nat) : Int := if j = 0 then 0 else ((f (j - 1) : Nat) : Int)
/-- withZero, the first i places done. -/
def wzi (f : Nat → Nat) (x : Int) (i j : Nat) : Int := if j < i then ma (ng x) ((f j : Nat) : Int) (pv f j) else if j = i then pv f i else 0
/-- N coefficients f, times (X - x). -/
def wz (f : Nat → Nat) (x : Int) (N j : Nat) : Int := if j < N then ma (ng x) ((f j : Nat) : Int) (pv f j) else pv f j
theorem wzi_at (f : Nat → Nat) (x : Int) (i : Nat) : wzi f x i i = pv f i := by unfold wzi; rw [if_neg (by omega), if_pos rfl]
theorem wzi_step (f : Nat → Nat) (x : Int) (i j : Nat) : upS (upS (wzi f x i) i (ma (ng x) ((f i : Nat) : Int) (pv f i))) (i + 1) ((f i : Nat) : Int) j = wzi f x (i + 1) j := by
  unfold upS wzi
  by_cases h : j = i + 1
  · subst h
    rw [if_pos rfl, if_neg (by omega), if_pos rfl]
    unfold pv
    rw [if_neg (by omega), Nat.add_sub_cancel]
  · rw [if_neg h, if_neg (c := j = i + 1) h]
    by_cases h2 : j = i
    · subst h2
      rw [if_pos rfl, if_pos (by omega)]
    · rw [if_neg h2]
      by_cases h3 : j < i
      · rw [if_pos h3, if_pos (by omega)]
      · rw [if_neg h3, if_neg h2, if_neg (by omega)]
theorem wzi_0 (f : Nat → Nat) (x : Int) (j : Nat) : wzi f x 0 j = 0 := by
  unfold wzi
  rw [if_neg (by omega)]
  by_cases h : j = 0
  · rw [if_pos h]; rfl
  · rw [if_neg h]
theorem wzi_N (f : Nat → Nat) (x : Int) (N j : Nat) (h : j < N + 1) : wzi f x N j = wz f x N j := by
  unfold wzi wz
  by_cases h2 : j < N
  · rw [if_pos h2, if_pos h2]
  · rw [if_neg h2, if_neg h2, if_pos (by omega), show j = N by omega]
theorem pv_r (f : Nat → Nat) (N i : Nat) (hi : i < N + 1) (hf : ∀ j, j < N → R256 ((f j : Nat) : Int)) : R256 (pv f i) := by
  unfold pv
  by_cases h : i = 0
  · rw [if_pos h]; exact r256_c0
  · rw [if_neg h]; exact hf _ (by omega)
theorem wz_r (f : Nat → Nat) (x : Int) (N i : Nat) (hi : i < N + 1) (hf : ∀ j, j < N → R256 ((f j : Nat) : Int)) : R256 (wz f x N i) := by
  unfold wz
  by_cases h : i < N
  · rw [if_pos h]; exact r256_mod _
  · rw [if_neg h]; exact pv_r f N i hi hf
set_option maxHeartbeats 16000000 in
set_option maxRecDepth 100000 in
theorem withZero_s (v : Value) (N : Nat) (f : Nat → Nat) (hN : N ≤ 1000000) (x : Int) (rx : R256 x) (w : World) (hL : Ls w v N f) :
    Calls Tryz.prog 40 #[v, fe x] w fun e w' => ∃ g, w.heap.size ≤ g ∧ e = .returned (.slice (some ⟨g, 0, none⟩) (N + 1) (N + 1)) ∧ Sb w' g (N + 1) (wz f x N) ∧ Chg w w' [] := by
  have HRF : Hid (∀ i, i < N → R256 ((f i : Nat) : Int)) := fun i hi => hL.r256 hi
  obtain ⟨p, cp, rfl, hp⟩ := hL.range
  have HP : Hid (∀ i, i < N → ∃ g o, p = some ⟨g, o, none⟩ ∧ g < w.heap.size ∧ w.rangeAt g (o + i * 32) (feL (f i : Nat))) := hp
  have HN : Hid (N ≤ 1000000) := hN
  obtain ⟨M, hM⟩ : ∃ M, N + 1 = M := ⟨_, rfl⟩
  have HM : Hid (N + 1 = M) := hM
  have e0 : IntKind.i64.wrap ((N : Int) + 1) = (M : Int) := by rw [IntKind.wrap_i64]; omega
  rw [hM]
  clear hp hL hN hM
  go_enter Tryz.func40, Tryz.ntmps40
  go_wp2_with (first
    | (refine box_w rfl 24 _ rfl (feC x) rfl ?_; intro xb w1 hxb Bx k1)
    | (refine make_w rfl _ _ rfl M (by have := HN.out; have := HM.out; omega) rfl rfl ?_; intro g w2 hg Sq k2)
    | (refine load_b (Bx.chg k2 (by simp)) 24 _ Tryz.underlying24 rfl rfl rfl rfl feInfo ?_))
  refine (Neg_o x rx w2).mono ?_
  rintro e w3 ⟨rfl, k3⟩
  go_wp2_with (first
    | (refine alloc_w rfl 24 rfl (.agg z32) zeroSc z32 rfl ?_; intro mb w4 hmb Bm0 k4)
    | (refine store_w Bm0 rfl 24 _ _ (feC (ng x)) rfl rfl rfl feInfo rfl (feC_one _) ?_; intro w5 Bm k5))
  have C : Chg w w5 [] := (((((Chg.refl w []).trans1 k1).trans1 k2).trans1 k3).trans1 k4).new k5 (by have := k1.size; have := k2.size; have := k3.size; omega)
  have HG : Hid (w.heap.size ≤ g) := by have := k1.size; show w.heap.size ≤ g; omega
  have hlt : g < w2.heap.size := Sq.lt
  have HMG : Hid (∀ {l : Nat}, l = g ∨ l = g → ¬ mb ∈ [l]) := fun {l} h => by have := k3.size; simp; omega
  have Sq5 : Sb w5 g M (wzi f x 0) := (((Sq.chg k3 (by simp)).chg k4 (by simp)).chg k5 (by have := k3.size; simp; omega)).congr (fun j _ => (wzi_0 f x j).symm)
  replace HMG : Hid (¬ mb ∈ [g]) := HMG.out (Or.inl rfl)
  clear k1 k2 k3 k4 k5 hxb hg hmb Sq Bm0 Bx hlt
  go_loopw [17] (fun t wr => ∃ i : Nat, i ≤ N ∧ t = .int .i64 (i : Int) ∧ Sb wr g M (wzi f x i) ∧ Blk wr mb (feC (ng x)) 24 ∧ Chg w wr []) (fun t _ => (N - intOf t).toNat)
  case atStart => exact ⟨0, Nat.zero_le _, rfl, Sq5, Bm, C⟩
  case round =>
    clear Sq5 Bm C
    obtain ⟨i, hi, rfl, Sq, Bm, C⟩ := hrel
    by_cases h : i < N
    · have hI : (i : Int) < (N : Int) := by omega
      have hI0 : (0 : Int) ≤ (i : Int) := by omega
      have hIM : (i : Int) < (M : Int) := by have := HM.out; omega
      have hIM1 : (i : Int) + 1 < (M : Int) := by have := HM.out; omega
      have hI1' : (0 : Int) ≤ (i : Int) + 1 := by omega
      have e1 : IntKind.i64.wrap ((i : Int) + 1) = (i : Int) + 1 := by have := HN.out; rw [IntKind.wrap_i64]; omega
      have HMs : Hid _ := mN N i h
      have HI1 : Hid (i + 1 ≤ N) := h
      have HI2 : Hid (i < M) := by have := HM.out; show i < M; omega
      have HI3 : Hid (i + 1 < M) := by have := HM.out; show i + 1 < M; omega
      have HRf : Hid (R256 ((f i : Nat) : Int)) := HRF.out i h
      have HRp : Hid (R256 (pv f i)) := pv_r f N i (by omega) HRF.out
      have HPV : Hid (wzi f x i i = pv f i) := wzi_at f x i
      obtain ⟨gp, o, rfl, hg, hF⟩ := HP.out i h
      have hF' := rangeAt_chg hF hg C (by simp)
      clear hF hg h hi
      have HCz : Hid (w.heap.size ≤ wr.heap.size) := C.size
      have HGl : Hid (g < wr.heap.size ∧ mb < wr.heap.size) := ⟨Sq.lt, Bm.lt⟩
      go_wp2_with (first
        | (refine load_sc rfl _ rfl gp (o + i * 32) _ rfl hF' ?_)
        | (refine alloc_w rfl 24 rfl (.agg z32) zeroSc z32 rfl ?_; intro cb w1 hcb B0 k1)
        | (refine store_w B0 rfl 24 _ _ (feC ((f i : Nat) : Int)) rfl rfl rfl feInfo rfl (feC_one _) ?_; intro wq Bc k2))
      replace C := (C.trans1 k1).new k2 (by have := HCz.out; omega)
      replace Sq := (Sq.chg k1 (by simp)).chg k2 (by have := HGl.out; simp; omega)
      replace Bm := (Bm.chg k1 (by simp)).chg k2 (by have := HGl.out; simp; omega)
      have HCG : Hid (¬ cb ∈ [g]) := by have := HGl.out; show ¬ cb ∈ [g]; simp; omega
      clear k1 k2 B0 hcb hF'
      refine wp_region_held_drew (S := fun w' => Chg wq w' [g]) (by kernel_rfl) ((Chg.refl wq _).drew) (fun hHeld => ?_)
      replace Sq : Sb wq.drew g M (wzi f x i) := Sq
      replace C := C.drew
      refine take_val (v := ?_) 0 (some 22) rfl (by kernel_rfl) (by kernel_rfl) (by kernel_rfl) (fun _ _ _ h => h) rfl rfl (fun w hSw => ?_) hHeld ?_
      rotate_left
      · (go_simp; try with_reducible rfl)
      try simp only [Act.put, List.setIfInBounds_toArray, List.set_cons_zero, List.set_cons_succ]
      refine take_val (v := ?_) 1 (some 23) rfl (by kernel_rfl) (by kernel_rfl) (by kernel_rfl) (fun _ _ _ h => h) rfl rfl (fun w hSw => ?_) hHeld ?_
      rotate_left
      · (go_simp; try with_reducible rfl)
      try simp only [Act.put, List.setIfInBounds_toArray, List.set_cons_zero, List.set_cons_succ]
      refine take_load 2 (some 24) (feC (ng x)) rfl (by kernel_rfl) (by kernel_rfl) (by kernel_rfl) (fun _ _ _ h => h) rfl rfl 24 _ rfl mb rfl 24 _ (fun w h => Bm.chg h HMG.out) Tryz.underlying24 rfl (by first | exact feInfo | kernel_rfl) hHeld ?_
      try simp only [Act.put, List.setIfInBounds_toArray, List.set_cons_zero, List.set_cons_succ]
      refine take_load 3 (some 25) (feC ((f i : Nat) : Int)) rfl (by kernel_rfl) (by kernel_rfl) (by kernel_rfl) (fun _ _ _ h => h) rfl rfl 24 _ rfl cb rfl 24 _ (fun w h => Bc.chg h HCG.out) Tryz.underlying24 rfl (by first | exact feInfo | kernel_rfl) hHeld ?_
      try simp only [Act.put, List.setIfInBounds_toArray, List.set_cons_zero, List.set_cons_succ]
      refine take_val (v := ?_) 4 (some 26) rfl (by kernel_rfl) (by kernel_rfl) (by kernel_rfl) (fun _ _ _ h => h) rfl rfl (fun w hSw => ?_) hHeld ?_
      rotate_left
      · (go_simp; try with_reducible rfl)
      try simp only [Act.put, List.setIfInBounds_toArray, List.set_cons_zero, List.set_cons_succ]
      refine take_val (v := ?_) 5 (some 27) rfl (by kernel_rfl) (by kernel_rfl) (by kernel_rfl) (fun _ _ _ h => h) rfl rfl (fun w hSw => ?_) hHeld ?_
      rotate_left
      · (go_simp; try with_reducible rfl)
      try simp only [Act.put, List.setIfInBounds_toArray, List.set_cons_zero, List.set_cons_succ]
      refine take_val (v := ?_) 6 (some 28) rfl (by kernel_rfl) (by kernel_rfl) (by kernel_rfl) (fun _ _ _ h => h) rfl rfl (fun w hSw => ?_) hHeld ?_
      rotate_left
      · (go_simp; try with_reducible rfl)
      try simp only [Act.put, List.setIfInBounds_toArray, List.set_cons_zero, List.set_cons_succ]
      refine wpAnyH_ready (rs := [7]) (by kernel_rfl) (by simp) ?_
      refine AllReadyH.cons (o := _) rfl (fun K hK => ?_) ?_
      ·
        rw [if_pos (by rfl)]
        refine wp_load_mid 24 _ rfl g (i * 32) rfl (feL (pv f i)) _ (HPV.out ▸ Sq.range HI2.out) Tryz.underlying24 rfl feInfo ?_
        refine hK.out _ _ (hHeld) (fun hHeld => ?_)
        clear hK K
        try simp only [Act.put, List.setIfInBounds_toArray, List.set_cons_zero, List.set_cons_succ]
        refine wpAnyH_ready (rs := [8]) (by kernel_rfl) (by simp) ?_
        refine AllReadyH.cons (o := _) rfl (fun K hK => ?_) ?_
        ·
          go_simp
          refine (MulAdd_o (ng x) _ _ (r256_mod _) HRf.out HRp.out _).mono ?_
          rintro e w5 ⟨rfl, k⟩
          replace Sq := Sq.chg k (by simp)
          replace C := C.trans1 k
          go_wp2_with fail
          refine hK.out _ _ (hHeld.trans1 k.wide) (fun hHeld => ?_)
          clear hK K
          try simp only [Act.put, List.setIfInBounds_toArray, List.set_cons_zero, List.set_cons_succ]
          clear k
          refine take_val (v := ?_) 9 (some 31) rfl (by kernel_rfl) (by kernel_rfl) (by kernel_rfl) (fun _ _ _ h => h) rfl rfl (fun w hSw => ?_) hHeld ?_
          rotate_left
          · (go_simp; try with_reducible rfl)
          try simp only [Act.put, List.setIfInBounds_toArray, List.set_cons_zero, List.set_cons_succ]
          refine wpAnyH_ready (rs := [10]) (by kernel_rfl) (by simp) ?_
          refine AllReadyH.cons (o := _) rfl (fun K hK => ?_) ?_
          ·
            rw [if_pos (by rfl)]
            refine wp_store_sb _ _ rfl g M i _ _ rfl rfl Sq HI2.out ?_
            intro w6 S6 k6
            refine hK.out _ _ (hHeld.trans1 k6) (fun hHeld => ?_)
            clear hK K
            try simp only [Act.put, List.setIfInBounds_toArray, List.set_cons_zero, List.set_cons_succ]
            refine wpAnyH_done (by kernel_rfl) ?_ _
            replace C := C.new k6 HG.out
            replace Bc := Bc.chg hHeld HCG.out
            replace Bm := Bm.chg hHeld HMG.out
            clear Sq k6 hHeld
            go_wp2_with (first
              | (refine load_b Bc 24 _ Tryz.underlying24 rfl rfl rfl rfl feInfo ?_)
              | (refine store_sb rfl _ _ rfl g M (i + 1) _ _ rfl rfl S6 HI3.out ?_; intro w7 S7 k7))
            replace C := C.new k7 HG.out
            replace Bm := Bm.chg k7 HMG.out
            go_roundw
            case rel => exact ⟨i + 1, HI1.out, by go_num, S7.congr (fun j _ => wzi_step f x i j), Bm, C⟩
            case measure => exact HMs.out
          exact AllReadyH.nil
        exact AllReadyH.nil
      exact AllReadyH.nil
    · obtain rfl : i = N := by omega
      have hI : ¬ (i : Int) < (i : Int) := by omega
      have HS : Hid (Sb wr g (i + 1) (wz f x i)) := by rw [HM.out]; exact Sq.congr (fun j hj => wzi_N f x i j (by have := HM.out; omega))
      go_wp2_with fail
      go_ret
      rw [← HM.out]
      exact ⟨g, HG.out, rfl, HS.out, C⟩
end Go.Proofs.YtledggdoehnlcaaGreat
