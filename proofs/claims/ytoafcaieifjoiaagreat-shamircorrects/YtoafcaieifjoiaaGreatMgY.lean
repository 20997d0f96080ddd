/- Joined: Sh4, Sh5. -/
import Derived.Test.YtoafcaieifjoiaaGreatMgD
import Derived.Deep.DeepCutAuto
/- shamir.withZero. -/
set_option linter.unusedVariables false
set_option linter.unusedSimpArgs false
set_option linter.unnecessarySimpa false
namespace Go.Proofs.YtoafcaieifjoiaaGreat
open Go.RowKit N

/-- The coefficient ahead. -/
def pv (f : Nat → Nat) (j : Nat) : Int := if j = 0 then 0 else ((f (j - 1) : Nat) : Int)
/-- withZero, the first i places done. -/
def wzi (f : Nat → Nat) (x : Int) (i j : Nat) : Int := if j < i then ma (ng x) ((f j : Nat) : Int) (pv f j) else if j = i then pv f i else 0
/-- N coefficients f, times (X - x). -/
def wz (f : Nat → Nat) (x : Int) (N j : Nat) : Int := if j < N then ma (ng x) ((f j : Nat) : Int) (pv f j) else pv f j
theorem wzi_at (f : Nat → Nat) (x : Int) (i : Nat) : wzi f x i i = pv f i := by unfold wzi; rw [if_neg (by omega), if_pos rfl]
theorem wzi_step (f : Nat → Nat) (x : Int) (i j : Nat) : upS (upS (wzi f x i) i (ma (ng x) ((f i : Nat) : Int) (pv f i))) (i + 1) ((f i : Nat) : Int) j = wzi f x (i + 1) j := by
  unfold upS wzi
  by_cases h : j = i + 1
  · subst h
    rw [if_pos rfl, if_neg (by omega), if_pos rfl]
    unfold pv
    rw [if_neg (by omega), Nat.add_sub_cancel]
  · rw [if_neg h, if_neg (c := j = i + 1) h]
    by_cases h2 : j = i
    · subst h2
      rw [if_pos rfl, if_pos (by omega)]
    · rw [if_neg h2]
      by_cases h3 : j < i
      · rw [if_pos h3, if_pos (by omega)]
      · rw [if_neg h3, if_neg h2, if_neg (by omega)]
theorem wzi_0 (f : Nat → Nat) (x : Int) (j : Nat) : wzi f x 0 j = 0 := by
  unfold wzi
  rw [if_neg (by omega)]
  by_cases h : j = 0
  · rw [if_pos h]; rfl
  · rw [if_neg h]
theorem wzi_N (f : Nat → Nat) (x : Int) (N j : Nat) (h : j < N + 1) : wzi f x N j = wz f x N j := by
  unfold wzi wz
  by_cases h2 : j < N
  · rw [if_pos h2, if_pos h2]
  · rw [if_neg h2, if_neg h2, if_pos (by omega), show j = N by omega]
theorem pv_r (f : Nat → Nat) (N i : Nat) (hi : i < N + 1) (hf : ∀ j, j < N → R256 ((f j : Nat) : Int)) : R256 (pv f i) := by
  unfold pv
  by_cases h : i = 0
  · rw [if_pos h]; exact r256_c0
  · rw [if_neg h]; exact hf _ (by omega)
theorem wz_r (f : Nat → Nat) (x : Int) (N i : Nat) (hi : i < N + 1) (hf : ∀ j, j < N → R256 ((f j : Nat) : Int)) : R256 (wz f x N i) := by
  unfold wz
  by_cases h : i < N
  · rw [if_pos h]; exact r256_mod _
  · rw [if_neg h]; exact pv_r f N i hi hf
set_option maxHeartbeats 16000000 in
set_option maxRecDepth 100000 in
theorem withZero_s (v : Value) (N : Nat) (f : Nat → Nat) (hN : N ≤ 1000000) (x : Int) (rx : R256 x) (w : World) (hL : Ls w v N f) :
    Calls Tryz.prog 84 #[v, fe x] w fun e w' => ∃ g, w.heap.size ≤ g ∧ e = .returned (.slice (some ⟨g, 0, none⟩) (N + 1) (N + 1)) ∧ Sb w' g (N + 1) (wz f x N) ∧ Chg w w' [] := by
  have HRF : Hid (∀ i, i < N → R256 ((f i : Nat) : Int)) := fun i hi => hL.r256 hi
  obtain ⟨p, cp, rfl, hp⟩ := hL.range
  have HP : Hid (∀ i, i < N → ∃ g o, p = some ⟨g, o, none⟩ ∧ g < w.heap.size ∧ w.rangeAt g (o + i * 32) (feL (f i : Nat))) := hp
  have HN : Hid (N ≤ 1000000) := hN
  obtain ⟨M, hM⟩ : ∃ M, N + 1 = M := ⟨_, rfl⟩
  have HM : Hid (N + 1 = M) := hM
  have e0 : IntKind.i64.wrap ((N : Int) + 1) = (M : Int) := by rw [IntKind.wrap_i64]; omega
  rw [hM]
  clear hp hL hN hM
  go_enter Tryz.func84, Tryz.ntmps84
  go_wp2_with (first
    | (refine box_w rfl 24 _ rfl (feC x) rfl ?_; intro xb w1 hxb Bx k1)
    | (refine make_w rfl _ _ rfl M (by have := HN.out; have := HM.out; omega) rfl rfl ?_; intro g w2 hg Sq k2)
    | (refine load_b (Bx.chg k2 (by simp)) 24 _ Tryz.underlying24 rfl rfl rfl rfl feInfo ?_))
  refine (Neg_o x rx w2).mono ?_
  rintro e w3 ⟨rfl, k3⟩
  go_wp2_with (first
    | (refine alloc_w rfl 24 rfl (.agg z32) zeroSc z32 rfl ?_; intro mb w4 hmb Bm0 k4)
    | (refine store_w Bm0 rfl 24 _ _ (feC (ng x)) rfl rfl rfl feInfo rfl (feC_one _) ?_; intro w5 Bm k5))
  have C : Chg w w5 [] := (((((Chg.refl w []).trans1 k1).trans1 k2).trans1 k3).trans1 k4).new k5 (by have := k1.size; have := k2.size; have := k3.size; omega)
  have HG : Hid (w.heap.size ≤ g) := by have := k1.size; show w.heap.size ≤ g; omega
  have hlt : g < w2.heap.size := Sq.lt
  have HMG : Hid (∀ {l : Nat}, l = g ∨ l = g → ¬ mb ∈ [l]) := fun {l} h => by have := k3.size; simp; omega
  have Sq5 : Sb w5 g M (wzi f x 0) := (((Sq.chg k3 (by simp)).chg k4 (by simp)).chg k5 (by have := k3.size; simp; omega)).congr (fun j _ => (wzi_0 f x j).symm)
  replace HMG : Hid (¬ mb ∈ [g]) := HMG.out (Or.inl rfl)
  clear k1 k2 k3 k4 k5 hxb hg hmb Sq Bm0 Bx hlt
  go_loopw [17] (fun t wr => ∃ i : Nat, i ≤ N ∧ t = .int .i64 (i : Int) ∧ Sb wr g M (wzi f x i) ∧ Blk wr mb (feC (ng x)) 24 ∧ Chg w wr []) (fun t _ => (N - intOf t).toNat)
  case atStart => exact ⟨0, Nat.zero_le _, rfl, Sq5, Bm, C⟩
  case round =>
    clear Sq5 Bm C
    obtain ⟨i, hi, rfl, Sq, Bm, C⟩ := hrel
    by_cases h : i < N
    · have hI : (i : Int) < (N : Int) := by omega
      have hI0 : (0 : Int) ≤ (i : Int) := by omega
      have hIM : (i : Int) < (M : Int) := by have := HM.out; omega
      have hIM1 : (i : Int) + 1 < (M : Int) := by have := HM.out; omega
      have hI1' : (0 : Int) ≤ (i : Int) + 1 := by omega
      have e1 : IntKind.i64.wrap ((i : Int) + 1) = (i : Int) + 1 := by have := HN.out; rw [IntKind.wrap_i64]; omega
      have HMs : Hid _ := mN N i h
      have HI1 : Hid (i + 1 ≤ N) := h
      have HI2 : Hid (i < M) := by have := HM.out; show i < M; omega
      have HI3 : Hid (i + 1 < M) := by have := HM.out; show i + 1 < M; omega
      have HRf : Hid (R256 ((f i : Nat) : Int)) := HRF.out i h
      have HRp : Hid (R256 (pv f i)) := pv_r f N i (by omega) HRF.out
      have HPV : Hid (wzi f x i i = pv f i) := wzi_at f x i
      obtain ⟨gp, o, rfl, hg, hF⟩ := HP.out i h
      have hF' := rangeAt_chg hF hg C (by simp)
      clear hF hg h hi
      have HCz : Hid (w.heap.size ≤ wr.heap.size) := C.size
      have HGl : Hid (g < wr.heap.size ∧ mb < wr.heap.size) := ⟨Sq.lt, Bm.lt⟩
      go_wp2_with (first
        | (refine load_sc rfl _ rfl gp (o + i * 32) _ rfl hF' ?_)
        | (refine alloc_w rfl 24 rfl (.agg z32) zeroSc z32 rfl ?_; intro cb w1 hcb B0 k1)
        | (refine store_w B0 rfl 24 _ _ (feC ((f i : Nat) : Int)) rfl rfl rfl feInfo rfl (feC_one _) ?_; intro wq Bc k2))
      replace C := (C.trans1 k1).new k2 (by have := HCz.out; omega)
      replace Sq := (Sq.chg k1 (by simp)).chg k2 (by have := HGl.out; simp; omega)
      replace Bm := (Bm.chg k1 (by simp)).chg k2 (by have := HGl.out; simp; omega)
      have HCG : Hid (¬ cb ∈ [g]) := by have := HGl.out; show ¬ cb ∈ [g]; simp; omega
      clear k1 k2 B0 hcb hF'
      refine wp_region_held_drew (S := fun w' => Chg wq w' [g]) (by kernel_rfl) ((Chg.refl wq _).drew) (fun hHeld => ?_)
      replace Sq : Sb wq.drew g M (wzi f x i) := Sq
      replace C := C.drew
      refine tv (v := ?_) 0 (some 22) rfl (by kernel_rfl) (fun _ _ _ h => h) rfl rfl (fun w hSw => ?_) hHeld ?_; rotate_left; (· (go_simp; try with_reducible rfl)); try simp only [Act.put, sA1, sA2, sA3]
      refine tv (v := ?_) 1 (some 23) rfl (by kernel_rfl) (fun _ _ _ h => h) rfl rfl (fun w hSw => ?_) hHeld ?_; rotate_left; (· (go_simp; try with_reducible rfl)); try simp only [Act.put, sA1, sA2, sA3]
      refine take_load 2 (some 24) (feC (ng x)) rfl (by kernel_rfl) (by kernel_rfl) (by kernel_rfl) (fun _ _ _ h => h) rfl rfl 24 _ rfl mb rfl 24 _ (fun w h => Bm.chg h HMG.out) Tryz.underlying24 rfl (by first | exact feInfo | kernel_rfl) hHeld ?_
      try simp only [Act.put, sA1, sA2, sA3]
      refine take_load 3 (some 25) (feC ((f i : Nat) : Int)) rfl (by kernel_rfl) (by kernel_rfl) (by kernel_rfl) (fun _ _ _ h => h) rfl rfl 24 _ rfl cb rfl 24 _ (fun w h => Bc.chg h HCG.out) Tryz.underlying24 rfl (by first | exact feInfo | kernel_rfl) hHeld ?_
      try simp only [Act.put, sA1, sA2, sA3]
      refine tv (v := ?_) 4 (some 26) rfl (by kernel_rfl) (fun _ _ _ h => h) rfl rfl (fun w hSw => ?_) hHeld ?_; rotate_left; (· (go_simp; try with_reducible rfl)); try simp only [Act.put, sA1, sA2, sA3]
      refine tv (v := ?_) 5 (some 27) rfl (by kernel_rfl) (fun _ _ _ h => h) rfl rfl (fun w hSw => ?_) hHeld ?_; rotate_left; (· (go_simp; try with_reducible rfl)); try simp only [Act.put, sA1, sA2, sA3]
      refine tv (v := ?_) 6 (some 28) rfl (by kernel_rfl) (fun _ _ _ h => h) rfl rfl (fun w hSw => ?_) hHeld ?_; rotate_left; (· (go_simp; try with_reducible rfl)); try simp only [Act.put, sA1, sA2, sA3]
      refine wpAnyH_ready (rs := [7]) (by kernel_rfl) (by simp) ?_
      refine AllReadyH.cons (o := _) rfl (fun K hK => ?_) ?_
      ·
        rw [if_pos (by rfl)]
        refine wp_load_mid 24 _ rfl g (i * 32) rfl (feL (pv f i)) _ (HPV.out ▸ Sq.range HI2.out) Tryz.underlying24 rfl feInfo ?_
        refine hK.out _ _ (hHeld) (fun hHeld => ?_)
        clear hK K
        try simp only [Act.put, sA1, sA2, sA3]
        refine wpAnyH_ready (rs := [8]) (by kernel_rfl) (by simp) ?_
        refine AllReadyH.cons (o := _) rfl (fun K hK => ?_) ?_
        ·
          go_simp
          refine (MulAdd_o (ng x) _ _ (r256_mod _) HRf.out HRp.out _).mono ?_
          rintro e w5 ⟨rfl, k⟩
          replace Sq := Sq.chg k (by simp)
          replace C := C.trans1 k
          go_wp2_with fail
          refine hK.out _ _ (hHeld.trans1 k.wide) (fun hHeld => ?_)
          clear hK K
          try simp only [Act.put, sA1, sA2, sA3]
          clear k
          refine tv (v := ?_) 9 (some 31) rfl (by kernel_rfl) (fun _ _ _ h => h) rfl rfl (fun w hSw => ?_) hHeld ?_; rotate_left; (· (go_simp; try with_reducible rfl)); try simp only [Act.put, sA1, sA2, sA3]
          refine wpAnyH_ready (rs := [10]) (by kernel_rfl) (by simp) ?_
          refine AllReadyH.cons (o := _) rfl (fun K hK => ?_) ?_
          ·
            rw [if_pos (by rfl)]
            refine wp_store_sb _ _ rfl g M i _ _ rfl rfl Sq HI2.out ?_
            intro w6 S6 k6
            refine hK.out _ _ (hHeld.trans1 k6) (fun hHeld => ?_)
            clear hK K
            try simp only [Act.put, sA1, sA2, sA3]
            refine wpAnyH_done (by kernel_rfl) ?_ _
            replace C := C.new k6 HG.out
            replace Bc := Bc.chg hHeld HCG.out
            replace Bm := Bm.chg hHeld HMG.out
            clear Sq k6 hHeld
            go_wp2_with (first
              | (refine load_b Bc 24 _ Tryz.underlying24 rfl rfl rfl rfl feInfo ?_)
              | (refine store_sb rfl _ _ rfl g M (i + 1) _ _ rfl rfl S6 HI3.out ?_; intro w7 S7 k7))
            replace C := C.new k7 HG.out
            replace Bm := Bm.chg k7 HMG.out
            go_roundw
            case rel => exact ⟨i + 1, HI1.out, by go_num, S7.congr (fun j _ => wzi_step f x i j), Bm, C⟩
            case measure => exact HMs.out
          exact AllReadyH.nil
        exact AllReadyH.nil
      exact AllReadyH.nil
    · obtain rfl : i = N := by omega
      have hI : ¬ (i : Int) < (i : Int) := by omega
      have HS : Hid (Sb wr g (i + 1) (wz f x i)) := by rw [HM.out]; exact Sq.congr (fun j hj => wzi_N f x i j (by have := HM.out; omega))
      go_wp2_with fail
      go_ret
      rw [← HM.out]
      exact ⟨g, HG.out, rfl, HS.out, C⟩
end Go.Proofs.YtoafcaieifjoiaaGreat

/- shamir.Through. -/
namespace Go.Proofs.YtoafcaieifjoiaaGreat
open Go.RowKit N

/-- The coefficients of the product of (X - x) over the first i places. -/
def zz (X : Nat → Int) : Nat → Nat → Int
  | 0 => fun _ => 1
  | i + 1 => wz (nT (zz X i)) (X i) (i + 1)
/-- Its value at the next place. -/
def zv (X : Nat → Int) (i : Nat) : Int := ev (nT (zz X i)) (X i) 0 (i + 1)
/-- The coefficients of the polynomial through the first i points. -/
def cc (X Y : Nat → Int) : Nat → Nat → Int
  | 0 => fun _ => 0
  | i + 1 => fun j => if j < i + 1 then ma (ml (sb (Y i) (ev (nT (cc X Y i)) (X i) 0 i)) (iv (zv X i))) (zz X i j) (cc X Y i j) else cc X Y i j
def fac (X Y : Nat → Int) (i : Nat) : Int := ml (sb (Y i) (ev (nT (cc X Y i)) (X i) 0 i)) (iv (zv X i))
/-- cc, the first k places of the next step done. -/
def mx (X Y : Nat → Int) (i : Nat) (F : Int) (k j : Nat) : Int := if j < k then ma F (zz X i j) (cc X Y i j) else cc X Y i j
theorem mx_at (X Y : Nat → Int) (i : Nat) (F : Int) (k : Nat) : mx X Y i F k k = cc X Y i k := if_neg (by omega)
theorem mx_step (X Y : Nat → Int) (i : Nat) (F : Int) (k j : Nat) : upS (mx X Y i F k) k (ma F (zz X i k) (cc X Y i k)) j = mx X Y i F (k + 1) j := by
  unfold upS mx
  by_cases h : j = k
  · subst h; rw [if_pos rfl, if_pos (by omega)]
  · rw [if_neg h]
    by_cases h2 : j < k
    · rw [if_pos h2, if_pos (by omega)]
    · rw [if_neg h2, if_neg (by omega)]
theorem mx_end (X Y : Nat → Int) (i j : Nat) : mx X Y i (fac X Y i) (i + 1) j = cc X Y (i + 1) j := rfl
theorem zz_r (X : Nat → Int) : ∀ i j, j < i + 1 → R256 (zz X i j)
  | 0, _, _ => r256_c1
  | i + 1, j, h => wz_r (nT (zz X i)) (X i) (i + 1) j h (fun j hj => by rw [nT_c _ _ (zz_r X i j hj).1]; exact zz_r X i j hj)
theorem cc_r (X Y : Nat → Int) : ∀ i j, R256 (cc X Y i j)
  | 0, _ => r256_c0
  | i + 1, j => by
    unfold cc
    by_cases h : j < i + 1
    · simp only [if_pos h]; exact r256_mod _
    · simp only [if_neg h]; exact cc_r X Y i j
theorem zv_rl (X : Nat → Int) (i : Nat) : RL (zv X i) := ev_rl _ _ _ _
theorem zv_eqn {X : Nat → Int} {i : Nat} : eqn (cn (zv X i)) 0 = decide (zv X i = 0) := by
  have h : cn (zv X i) = zv X i := Int.emod_eq_of_lt (zv_rl X i).1 (by have := (zv_rl X i).2; unfold L; exact this)
  rw [h, eqn_eq (zv_rl X i) ⟨by decide, by decide⟩]
/-- What Through answers. -/
def ThP (X Y : Nat → Int) (N : Nat) (w : World) (e : Ending) (w' : World) : Prop :=
  ((N = 0 ∨ 255 < N) ∧ e = .returned (.tuple #[.slice none 0 0, .int .i64 8])) ∨
  (0 < N ∧ N ≤ 255 ∧ (∃ i, i < N ∧ zv X i = 0 ∧ ∀ j, j < i → ¬ zv X j = 0) ∧ e = .returned (.tuple #[.slice none 0 0, .int .i64 5])) ∨
  (0 < N ∧ N ≤ 255 ∧ (∀ j, j < N → ¬ zv X j = 0) ∧ ∃ g, w.heap.size ≤ g ∧ e = .returned (.tuple #[.slice (some ⟨g, 0, none⟩) N N, .int .i64 0]) ∧ Sb w' g N (cc X Y N))
set_option maxHeartbeats 32000000 in
set_option maxRecDepth 100000 in
theorem Through_s (v : Value) (N : Nat) (X Y : Nat → Int) (hN : N ≤ 4611686018427387904) (w : World) (hL : Pl w v N X Y) :
    Calls Tryz.prog 32 #[v] w fun e w' => ThP X Y N w e w' ∧ Chg w w' [] := by
  have hr := hL.2
  obtain ⟨p, cp, rfl, hp⟩ := hL.1.form
  clear hL
  by_cases h0 : N = 0
  · subst h0
    go_enter Tryz.func32, Tryz.ntmps32
    go_wp2_with fail
    go_ret2
    exact ⟨Or.inl ⟨Or.inl rfl, rfl⟩, Chg.refl w []⟩
  by_cases h1 : 255 < N
  · have hz : ¬ (N : Int) = 0 := by omega
    have hzz : ((N : Int) == 0) = false := by simp; omega
    have hb : (255 : Int) < (N : Int) := by omega
    have H1 : Hid (255 < N) := h1
    clear h0 h1 hN
    go_enter Tryz.func32, Tryz.ntmps32
    go_wp2_with fail
    go_ret2
    exact ⟨Or.inl ⟨Or.inr H1.out, rfl⟩, Chg.refl w []⟩
  have hz : ¬ (N : Int) = 0 := by omega
  have hzz : ((N : Int) == 0) = false := by simp; omega
  have hb : ¬ (255 : Int) < (N : Int) := by omega
  have HN : Hid (0 < N ∧ N ≤ 255) := by show 0 < N ∧ N ≤ 255; omega
  have HP : Hid (∀ i, i < N → ∃ g o, p = some ⟨g, o, none⟩ ∧ g < w.heap.size ∧ w.rangeAt g (o + i * 64) (pF X Y i)) := hp
  have HR : Hid (∀ j, j < N → R256 (X j) ∧ R256 (Y j)) := hr
  clear h0 h1 hN hp hr
  obtain ⟨ie, hie, hiz, his, _⟩ := scRowL
  have HB1 := built_1
  go_enter Tryz.func32, Tryz.ntmps32
  go_wp2_with (first
    | (with_reducible refine make_w ?_ (.tmp 22) (.tmp 22) ?_ N ?_ ?_ ?_ ?_
       · rfl
       · rfl
       · have := HN.out; omega
       · rfl
       · rfl
       intro cb w1 hcb Sc0 k1)
    | (with_reducible refine build_1 ?_ 24 0 (.const (.int .u8 1)) ?_ (.int .u8 1) ?_ (feC 1) HB1 ?_
       · rfl
       · rfl
       · rfl)
    | (with_reducible refine bslice_w ?_ 22 24 (.tmp 24) ?_ (fe 1) ?_ (feC 1) ie (.agg z32) Tryz.underlying22 hie hiz 32 his ?_ ?_ (fill_sc 1) ?_
       · rfl
       · rfl
       · rfl
       · omega
       · omega
       intro zb w2 hzb Bz0 k2))
  have C : Chg w w2 [] := ((Chg.refl w []).trans1 k1).trans1 k2
  have HCB : Hid (w.heap.size ≤ cb) := hcb
  have hcl := Sc0.lt
  have HZB : Hid (¬ zb = cb) := by show ¬ zb = cb; omega
  have S0 : Sb w2 cb N (cc X Y 0) := Sc0.chg k2 (by simp)
  have Z0 : Sb w2 zb (0 + 1) (zz X 0) := sb_one Bz0
  clear k1 k2 Sc0 Bz0 hcb hzb hcl hie hiz his HB1
  go_loopw [5, 28] (fun z t wr => ∃ (i zb : Nat), i ≤ N ∧ t = .int .i64 (i : Int) ∧ z = .slice (some ⟨zb, 0, none⟩) (i + 1) (i + 1) ∧ ¬ zb = cb ∧ (∀ j, j < i → ¬ zv X j = 0) ∧ Sb wr cb N (cc X Y i) ∧ Sb wr zb (i + 1) (zz X i) ∧ Chg w wr []) (fun _ t _ => (N - intOf t).toNat)
  case atStart => exact ⟨0, zb, Nat.zero_le _, rfl, rfl, HZB.out, fun j hj => by omega, S0, Z0, C⟩
  case round =>
    clear S0 Z0 C HZB
    obtain ⟨i, zb, hi, rfl, rfl, hzc, hnz, Sc0, Sz, C⟩ := hrel
    by_cases h : i < N
    · have hI : (i : Int) < (N : Int) := by omega
      have hI0 : (0 : Int) ≤ (i : Int) := by omega
      have hIl : (i : Int) ≤ (N : Int) := by omega
      have e1 : IntKind.i64.wrap ((i : Int) + 1) = (i : Int) + 1 := by have := HN.out; rw [IntKind.wrap_i64]; omega
      have HMs : Hid _ := mN N i h
      have HI : Hid (i < N) := h
      have HNZ : Hid (∀ j, j < i → ¬ zv X j = 0) := hnz
      have HRX : Hid (R256 (X i)) := (HR.out i h).1
      have HRY : Hid (R256 (Y i)) := (HR.out i h).2
      have HZC : Hid (¬ zb = cb) := hzc
      obtain ⟨gp, o, rfl, hg, hF⟩ := HP.out i h
      have hF' : wr.rangeAt gp (o + i * 64) (feL (X i) ++ feL (Y i)) := rangeAt_chg hF hg C (by simp)
      have HCz : Hid (w.heap.size ≤ wr.heap.size) := C.size
      have HGl : Hid (cb < wr.heap.size ∧ zb < wr.heap.size) := ⟨Sc0.lt, Sz.lt⟩
      clear hF hg h hi hnz hzc
      go_wp2_with (first
        | (refine load_pt rfl _ rfl gp (o + i * 64) (X i) (Y i) rfl hF' ?_)
        | (refine alloc_w rfl 82 rfl (.agg zPt) zeroPt zPt rfl ?_; intro pb w1 hpb B0 k1)
        | (refine store_w B0 rfl 82 _ _ (ptC (X i) (Y i)) rfl rfl rfl ptInfo (by rw [zPt_size]; rfl) (ptC_one _ _) ?_; intro w2 Bp k2)
        | (refine load_sc rfl _ rfl pb 0 (X i) rfl (pt_x Bp) ?_))
      replace C := (C.trans1 k1).new k2 (by have := HCz.out; omega)
      replace Sc0 := (Sc0.chg k1 (by simp)).chg k2 (by have := HGl.out; simp; omega)
      replace Sz := (Sz.chg k1 (by simp)).chg k2 (by have := HGl.out; simp; omega)
      have HPG0 : Hid (¬ pb = cb) := by have := HGl.out; show ¬ pb = cb; omega
      clear k1 k2 B0 hpb hF'
      have LZ := Sz.ls (by have := HN.out; have := HI.out; omega) (fun j hj => zz_r X i j hj) (Nat.le_refl _)
      refine (Eval_s _ (i + 1) (nT (zz X i)) (by have := HN.out; have := HI.out; omega) (X i) HRX.out w2 LZ).mono ?_
      rintro e w3 ⟨rfl, k⟩
      replace C := C.trans1 k
      replace Sc0 := Sc0.chg k (by simp)
      replace Sz := Sz.chg k (by simp)
      replace Bp := Bp.chg k (by simp)
      clear k LZ
      obtain ⟨V, hV⟩ : ∃ V, ev (nT (zz X i)) (X i) 0 (i + 1) = V := ⟨_, rfl⟩
      have HV : Hid (zv X i = V) := hV
      have HVR : Hid (R256 V) := by show R256 V; rw [← hV]; exact r256_rl (ev_rl _ _ _ _)
      have HVE : Hid (eqn (cn V) 0 = decide (V = 0)) := by show eqn (cn V) 0 = decide (V = 0); have := zv_eqn (X := X) (i := i); rw [HV.out] at this; exact this
      rw [hV]
      clear hV
      go_wp2_with fail
      by_cases hv : V = 0
      · refine (Invert_zero V HVR.out (by have := HVE.out; unfold cn at this; rw [this]; exact decide_eq_true hv) w3).mono ?_
        rintro e w4 ⟨rfl, k⟩
        replace C := C.trans1 k
        have HZ : Hid (zv X i = 0) := by show zv X i = 0; rw [HV.out]; exact hv
        clear hv HVR HVE HV
        have HCz2 : Hid (w.heap.size ≤ w4.heap.size) := C.size
        go_wp2_with (first
          | (refine alloc_w rfl 24 rfl (.agg z32) zeroSc z32 rfl ?_; intro ib w5 hib B0 k1)
          | (refine store_w B0 rfl 24 _ _ _ rfl rfl rfl feInfo rfl (feC_one _) ?_; intro w6 Bi k2))
        go_ret2
        exact ⟨Or.inr (Or.inl ⟨HN.out.1, HN.out.2, ⟨i, HI.out, HZ.out, HNZ.out⟩, rfl⟩), (C.trans1 k1).new k2 (by have := HCz2.out; omega)⟩
      · refine (Invert_o V HVR.out (by rw [HVE.out]; exact decide_eq_false hv) w3).mono ?_
        rintro e w4 ⟨rfl, k⟩
        replace C := C.trans1 k
        replace Sc0 := Sc0.chg k (by simp)
        replace Sz := Sz.chg k (by simp)
        replace Bp := Bp.chg k (by simp)
        have HNZ2 : Hid (∀ j, j < i + 1 → ¬ zv X j = 0) := fun j hj => by
          rcases Nat.lt_or_ge j i with h | h
          · exact HNZ.out j h
          · rw [show j = i by omega, HV.out]; exact hv
        have HRI : Hid (R256 (iv (zv X i))) := r256_rl (pw_rl _ _)
        rw [← HV.out]
        clear hv HVR HVE HV HNZ k
        have HCz2 : Hid (w.heap.size ≤ w4.heap.size) := C.size
        have HL2 : Hid (cb < w4.heap.size ∧ zb < w4.heap.size ∧ pb < w4.heap.size) := ⟨Sc0.lt, Sz.lt, Bp.lt⟩
        go_upto_region 11 with (first
          | (refine alloc_w rfl 24 rfl (.agg z32) zeroSc z32 rfl ?_; intro ib w5 hib B0 k1)
          | (refine store_w B0 rfl 24 _ _ (feC (iv (zv X i))) rfl rfl rfl feInfo rfl (feC_one _) ?_; intro wq Bi k2))
        replace C := (C.trans1 k1).new k2 (by have := HCz2.out; omega)
        replace Sc0 := (Sc0.chg k1 (by simp)).chg k2 (by have := HL2.out; simp; omega)
        replace Sz := (Sz.chg k1 (by simp)).chg k2 (by have := HL2.out; simp; omega)
        replace Bp := (Bp.chg k1 (by simp)).chg k2 (by have := HL2.out; simp; omega)
        clear k1 k2 B0 hib HL2
        have HE1 : Hid (i ≤ 4611686018427387904) := by have := HN.out; have := HI.out; show i ≤ 4611686018427387904; omega
        have LC : Hid (Ls wq (.slice (some ⟨cb, 0, none⟩) i N) i (nT (cc X Y i))) := Sc0.ls (by have := HN.out; omega) (fun j _ => cc_r X Y i j) (by have := HI.out; omega)
        go_cut [10] (fun t10 wc => ∃ tb, t10 = .pointer (some ⟨tb, 0, none⟩) ∧ wq.heap.size ≤ tb ∧ Blk wc tb (feC (fac X Y i)) 24 ∧ Chg wq wc [])
        case first =>
          refine wp_region_held_drew (S := fun w' => Chg wq w' []) (by kernel_rfl) ((Chg.refl wq _).drew) (fun hHeld => ?_)
          refine tv (v := ?_) 0 (some 43) rfl (by kernel_rfl) (fun _ _ _ h => h) rfl rfl (fun w hSw => ?_) hHeld ?_; rotate_left; (· (go_simp; try with_reducible rfl)); try simp only [Act.put, sA1, sA2, sA3]
          refine tv (v := (.agg (feC (Y i)))) 1 (some 44) rfl (by kernel_rfl) (fun _ _ _ h => h) rfl rfl (fun w hSw => ?_) hHeld ?_
          · exact exec_load_m w 24 _ rfl pb 32 rfl (feL (Y i)) _ (pt_y (Bp.chg hSw (by simp))) Tryz.underlying24 rfl feInfo
          try simp only [Act.put, sA1, sA2, sA3]
          refine tv (v := ?_) 2 (some 45) rfl (by kernel_rfl) (fun _ _ _ h => h) rfl rfl (fun w hSw => ?_) hHeld ?_; rotate_left; (· (go_simp; try with_reducible rfl)); try simp only [Act.put, sA1, sA2, sA3]
          refine tv (v := ?_) 3 (some 46) rfl (by kernel_rfl) (fun _ _ _ h => h) rfl rfl (fun w hSw => ?_) hHeld ?_; rotate_left; (· (go_simp; try with_reducible rfl)); try simp only [Act.put, sA1, sA2, sA3]
          refine tv (v := (.slice (some ⟨cb, 0, none⟩) i N)) 4 (some 47) rfl (by kernel_rfl) (fun _ _ _ h => h) rfl rfl (fun w hSw => ?_) hHeld ?_
          · (go_simp; try with_reducible rfl)
          try simp only [Act.put, sA1, sA2, sA3]
          refine tv (v := ?_) 5 (some 48) rfl (by kernel_rfl) (fun _ _ _ h => h) rfl rfl (fun w hSw => ?_) hHeld ?_; rotate_left; (· (go_simp; try with_reducible rfl)); try simp only [Act.put, sA1, sA2, sA3]
          refine tv (v := (.agg (feC (X i)))) 6 (some 49) rfl (by kernel_rfl) (fun _ _ _ h => h) rfl rfl (fun w hSw => ?_) hHeld ?_
          · exact exec_load_m w 24 _ rfl pb 0 rfl (feL (X i)) _ (pt_x (Bp.chg hSw (by simp))) Tryz.underlying24 rfl feInfo
          try simp only [Act.put, sA1, sA2, sA3]
          refine take_load 9 (some 52) (feC (iv (zv X i))) rfl (by kernel_rfl) (by kernel_rfl) (by kernel_rfl) (fun _ _ _ h => h) rfl rfl 24 _ rfl ib rfl 24 _ (fun w h => Bi.chg h (by simp)) Tryz.underlying24 rfl (by first | exact feInfo | kernel_rfl) hHeld ?_
          try simp only [Act.put, sA1, sA2, sA3]
          refine wpAnyH_ready (rs := [7, 11]) (by kernel_rfl) (by simp) ?_
          refine AllReadyH.cons (o := _) rfl (fun K hK => ?_) ?_
          ·
            go_simp
            refine (Eval_s _ i (nT (cc X Y i)) HE1.out (X i) HRX.out _ (LC.out.chg0 hHeld)).mono ?_
            rintro e w7 ⟨rfl, k⟩
            go_wp2_with fail
            refine hK.out _ _ (hHeld.trans1 k) (fun hHeld => ?_)
            clear hK K
            try simp only [Act.put, sA1, sA2, sA3]
            clear k
            refine wpAnyH_ready (rs := [8, 11]) (by kernel_rfl) (by simp) ?_
            refine AllReadyH.cons (o := _) rfl (fun K hK => ?_) ?_
            ·
              go_simp
              refine (Sub_o (Y i) _ HRY.out (r256_rl (ev_rl _ _ _ _)) _).mono ?_
              rintro e w7 ⟨rfl, k⟩
              go_wp2_with fail
              refine hK.out _ _ (hHeld.trans1 k) (fun hHeld => ?_)
              clear hK K
              try simp only [Act.put, sA1, sA2, sA3]
              clear k
              refine wpAnyH_ready (rs := [10, 11]) (by kernel_rfl) (by simp) ?_
              refine AllReadyH.cons (o := _) rfl (fun K hK => ?_) ?_
              ·
                go_simp
                refine (Mul_o _ _ (r256_mod _) HRI.out _).mono ?_
                rintro e w7 ⟨rfl, k⟩
                go_wp2_with fail
                refine hK.out _ _ (hHeld.trans1 k) (fun hHeld => ?_)
                clear hK K
                try simp only [Act.put, sA1, sA2, sA3]
                clear k
                refine wpAnyH_ready (rs := [11]) (by kernel_rfl) (by simp) ?_
                refine AllReadyH.cons (o := _) rfl (fun K hK => ?_) ?_
                ·
                  rw [if_pos (by rfl)]
                  refine wp_alloc_w 24 rfl (.agg z32) zeroSc z32 rfl ?_
                  intro tb wa hta Bt k
                  change K (Act.put _ (some 10) _) _
                  have Hta : Hid (wq.heap.size ≤ tb) := by have := hHeld.size; show wq.heap.size ≤ tb; omega
                  refine hK.out _ _ (hHeld.trans1 k) (fun hHeld => ?_)
                  clear hK K
                  try simp only [Act.put, sA1, sA2, sA3]
                  clear k hta
                  refine wpAnyH_ready (rs := [12]) (by kernel_rfl) (by simp) ?_
                  refine AllReadyH.cons (o := _) rfl (fun K hK => ?_) ?_
                  ·
                    rw [if_pos (by rfl)]
                    refine wp_store_w Bt 24 _ _ (feC (fac X Y i)) rfl rfl rfl feInfo rfl (feC_one _) ?_
                    intro w9 Bt9 k9
                    refine hK.out _ _ (hHeld.new k9 Hta.out) (fun hHeld => ?_)
                    clear hK K
                    try simp only [Act.put, sA1, sA2, sA3]
                    refine wpAnyH_done (by kernel_rfl) ?_ _
                    go_wp2_with fail
                    go_meet
                    case rel => exact ⟨tb, rfl, Hta.out, Bt9, hHeld⟩
                  exact AllReadyH.nil
                exact AllReadyH.nil
              refine AllReadyH.cons (o := _) rfl (fun K hK => ?_) ?_
              ·
                rw [if_pos (by rfl)]
                refine wp_alloc_w 24 rfl (.agg z32) zeroSc z32 rfl ?_
                intro tb wa hta Bt k
                change K (Act.put _ (some 10) _) _
                have Hta : Hid (wq.heap.size ≤ tb) := by have := hHeld.size; show wq.heap.size ≤ tb; omega
                refine hK.out _ _ (hHeld.trans1 k) (fun hHeld => ?_)
                clear hK K
                try simp only [Act.put, sA1, sA2, sA3]
                clear k hta
                refine wpAnyH_ready (rs := [10]) (by kernel_rfl) (by simp) ?_
                refine AllReadyH.cons (o := _) rfl (fun K hK => ?_) ?_
                ·
                  go_simp
                  refine (Mul_o _ _ (r256_mod _) HRI.out _).mono ?_
                  rintro e w7 ⟨rfl, k⟩
                  replace Bt := Bt.chg k (by simp)
                  go_wp2_with fail
                  refine hK.out _ _ (hHeld.trans1 k) (fun hHeld => ?_)
                  clear hK K
                  try simp only [Act.put, sA1, sA2, sA3]
                  clear k
                  refine wpAnyH_ready (rs := [12]) (by kernel_rfl) (by simp) ?_
                  refine AllReadyH.cons (o := _) rfl (fun K hK => ?_) ?_
                  ·
                    rw [if_pos (by rfl)]
                    refine wp_store_w Bt 24 _ _ (feC (fac X Y i)) rfl rfl rfl feInfo rfl (feC_one _) ?_
                    intro w9 Bt9 k9
                    refine hK.out _ _ (hHeld.new k9 Hta.out) (fun hHeld => ?_)
                    clear hK K
                    try simp only [Act.put, sA1, sA2, sA3]
                    refine wpAnyH_done (by kernel_rfl) ?_ _
                    go_wp2_with fail
                    go_meet
                    case rel => exact ⟨tb, rfl, Hta.out, Bt9, hHeld⟩
                  exact AllReadyH.nil
                exact AllReadyH.nil
              exact AllReadyH.nil
            refine AllReadyH.cons (o := _) rfl (fun K hK => ?_) ?_
            ·
              rw [if_pos (by rfl)]
              refine wp_alloc_w 24 rfl (.agg z32) zeroSc z32 rfl ?_
              intro tb wa hta Bt k
              change K (Act.put _ (some 10) _) _
              have Hta : Hid (wq.heap.size ≤ tb) := by have := hHeld.size; show wq.heap.size ≤ tb; omega
              refine hK.out _ _ (hHeld.trans1 k) (fun hHeld => ?_)
              clear hK K
              try simp only [Act.put, sA1, sA2, sA3]
              clear k hta
              refine wpAnyH_ready (rs := [8]) (by kernel_rfl) (by simp) ?_
              refine AllReadyH.cons (o := _) rfl (fun K hK => ?_) ?_
              ·
                go_simp
                refine (Sub_o (Y i) _ HRY.out (r256_rl (ev_rl _ _ _ _)) _).mono ?_
                rintro e w7 ⟨rfl, k⟩
                replace Bt := Bt.chg k (by simp)
                go_wp2_with fail
                refine hK.out _ _ (hHeld.trans1 k) (fun hHeld => ?_)
                clear hK K
                try simp only [Act.put, sA1, sA2, sA3]
                clear k
                refine wpAnyH_ready (rs := [10]) (by kernel_rfl) (by simp) ?_
                refine AllReadyH.cons (o := _) rfl (fun K hK => ?_) ?_
                ·
                  go_simp
                  refine (Mul_o _ _ (r256_mod _) HRI.out _).mono ?_
                  rintro e w7 ⟨rfl, k⟩
                  replace Bt := Bt.chg k (by simp)
                  go_wp2_with fail
                  refine hK.out _ _ (hHeld.trans1 k) (fun hHeld => ?_)
                  clear hK K
                  try simp only [Act.put, sA1, sA2, sA3]
                  clear k
                  refine wpAnyH_ready (rs := [12]) (by kernel_rfl) (by simp) ?_
                  refine AllReadyH.cons (o := _) rfl (fun K hK => ?_) ?_
                  ·
                    rw [if_pos (by rfl)]
                    refine wp_store_w Bt 24 _ _ (feC (fac X Y i)) rfl rfl rfl feInfo rfl (feC_one _) ?_
                    intro w9 Bt9 k9
                    refine hK.out _ _ (hHeld.new k9 Hta.out) (fun hHeld => ?_)
                    clear hK K
                    try simp only [Act.put, sA1, sA2, sA3]
                    refine wpAnyH_done (by kernel_rfl) ?_ _
                    go_wp2_with fail
                    go_meet
                    case rel => exact ⟨tb, rfl, Hta.out, Bt9, hHeld⟩
                  exact AllReadyH.nil
                exact AllReadyH.nil
              exact AllReadyH.nil
            exact AllReadyH.nil
          refine AllReadyH.cons (o := _) rfl (fun K hK => ?_) ?_
          ·
            rw [if_pos (by rfl)]
            refine wp_alloc_w 24 rfl (.agg z32) zeroSc z32 rfl ?_
            intro tb wa hta Bt k
            change K (Act.put _ (some 10) _) _
            have Hta : Hid (wq.heap.size ≤ tb) := by have := hHeld.size; show wq.heap.size ≤ tb; omega
            refine hK.out _ _ (hHeld.trans1 k) (fun hHeld => ?_)
            clear hK K
            try simp only [Act.put, sA1, sA2, sA3]
            clear k hta
            refine wpAnyH_ready (rs := [7]) (by kernel_rfl) (by simp) ?_
            refine AllReadyH.cons (o := _) rfl (fun K hK => ?_) ?_
            ·
              go_simp
              refine (Eval_s _ i (nT (cc X Y i)) HE1.out (X i) HRX.out _ (LC.out.chg0 hHeld)).mono ?_
              rintro e w7 ⟨rfl, k⟩
              replace Bt := Bt.chg k (by simp)
              go_wp2_with fail
              refine hK.out _ _ (hHeld.trans1 k) (fun hHeld => ?_)
              clear hK K
              try simp only [Act.put, sA1, sA2, sA3]
              clear k
              refine wpAnyH_ready (rs := [8]) (by kernel_rfl) (by simp) ?_
              refine AllReadyH.cons (o := _) rfl (fun K hK => ?_) ?_
              ·
                go_simp
                refine (Sub_o (Y i) _ HRY.out (r256_rl (ev_rl _ _ _ _)) _).mono ?_
                rintro e w7 ⟨rfl, k⟩
                replace Bt := Bt.chg k (by simp)
                go_wp2_with fail
                refine hK.out _ _ (hHeld.trans1 k) (fun hHeld => ?_)
                clear hK K
                try simp only [Act.put, sA1, sA2, sA3]
                clear k
                refine wpAnyH_ready (rs := [10]) (by kernel_rfl) (by simp) ?_
                refine AllReadyH.cons (o := _) rfl (fun K hK => ?_) ?_
                ·
                  go_simp
                  refine (Mul_o _ _ (r256_mod _) HRI.out _).mono ?_
                  rintro e w7 ⟨rfl, k⟩
                  replace Bt := Bt.chg k (by simp)
                  go_wp2_with fail
                  refine hK.out _ _ (hHeld.trans1 k) (fun hHeld => ?_)
                  clear hK K
                  try simp only [Act.put, sA1, sA2, sA3]
                  clear k
                  refine wpAnyH_ready (rs := [12]) (by kernel_rfl) (by simp) ?_
                  refine AllReadyH.cons (o := _) rfl (fun K hK => ?_) ?_
                  ·
                    rw [if_pos (by rfl)]
                    refine wp_store_w Bt 24 _ _ (feC (fac X Y i)) rfl rfl rfl feInfo rfl (feC_one _) ?_
                    intro w9 Bt9 k9
                    refine hK.out _ _ (hHeld.new k9 Hta.out) (fun hHeld => ?_)
                    clear hK K
                    try simp only [Act.put, sA1, sA2, sA3]
                    refine wpAnyH_done (by kernel_rfl) ?_ _
                    go_wp2_with fail
                    go_meet
                    case rel => exact ⟨tb, rfl, Hta.out, Bt9, hHeld⟩
                  exact AllReadyH.nil
                exact AllReadyH.nil
              exact AllReadyH.nil
            exact AllReadyH.nil
          exact AllReadyH.nil
        case rest =>
          obtain ⟨tb, rfl, htb, Bt, k⟩ := hcut
          replace C := C.trans1 k
          have HTC : Hid (¬ tb = cb ∧ ¬ tb = zb ∧ ¬ tb = pb) := by have := Sc0.lt; have := Sz.lt; have := Bp.lt; show ¬ tb = cb ∧ ¬ tb = zb ∧ ¬ tb = pb; omega
          replace Sc0 := Sc0.chg k (by simp)
          replace Sz := Sz.chg k (by simp)
          replace Bp := Bp.chg k (by simp)
          clear k htb LC Bi
          obtain ⟨F, hF⟩ : ∃ F, fac X Y i = F := ⟨_, rfl⟩
          have HFa : Hid (fac X Y i = F) := hF
          have HRFm : Hid (R256 F) := by show R256 F; rw [← hF]; exact r256_mod _
          rw [hF] at Bt
          clear hF
          have S1 : Sb wc cb N (mx X Y i F 0) := Sc0.congr (fun j _ => (if_neg (by omega)).symm)
          clear Sc0
          go_wp2_with fail
          go_loopw [56] (fun t wr => ∃ k : Nat, k ≤ i + 1 ∧ t = .int .i64 (k : Int) ∧ Sb wr cb N (mx X Y i F k) ∧ Blk wr tb (feC F) 24 ∧ Blk wr pb (ptC (X i) (Y i)) 82 ∧ Sb wr zb (i + 1) (zz X i) ∧ Chg w wr []) (fun t _ => ((i + 1 : Nat) - intOf t).toNat)
          case atStart => exact ⟨0, Nat.zero_le _, rfl, S1, Bt, Bp, Sz, C⟩
          case round =>
            clear S1 Bt Bp Sz C
            obtain ⟨k, hk, rfl, Sq, Bt, Bp, Sz, C⟩ := hrel
            by_cases h : k < i + 1
            · have hK : (k : Int) < (i : Int) + 1 := by omega
              have hK0 : (0 : Int) ≤ (k : Int) := by omega
              have hKN : (k : Int) < (N : Int) := by omega
              have e2 : IntKind.i64.wrap ((k : Int) + 1) = (k : Int) + 1 := by have := HN.out; rw [IntKind.wrap_i64]; omega
              have HMk : Hid _ := mN (i + 1) k h
              have HK1 : Hid (k + 1 ≤ i + 1) := h
              have HKN : Hid (k < N) := by show k < N; omega
              have HRz : Hid (R256 (zz X i k)) := zz_r X i k h
              have HRc : Hid (R256 (cc X Y i k)) := cc_r X Y i k
              have HMX : Hid (mx X Y i F k k = cc X Y i k) := mx_at X Y i F k
              have hZr := Sz.range h
              have HCz3 : Hid (w.heap.size ≤ wr.heap.size) := C.size
              have HL3 : Hid (cb < wr.heap.size ∧ zb < wr.heap.size ∧ pb < wr.heap.size ∧ tb < wr.heap.size) := ⟨Sq.lt, Sz.lt, Bp.lt, Bt.lt⟩
              clear h hk
              go_wp2_with (first
                | (refine load_sc rfl _ rfl zb (k * 32) (zz X i k) rfl hZr ?_)
                | (refine alloc_w rfl 24 rfl (.agg z32) zeroSc z32 rfl ?_; intro db w1 hdb B0 k1)
                | (refine store_w B0 rfl 24 _ _ (feC (zz X i k)) rfl rfl rfl feInfo rfl (feC_one _) ?_; intro wq Bd k2))
              replace C := (C.trans1 k1).new k2 (by have := HCz3.out; omega)
              replace Sq := (Sq.chg k1 (by simp)).chg k2 (by have := HL3.out; simp; omega)
              replace Sz := (Sz.chg k1 (by simp)).chg k2 (by have := HL3.out; simp; omega)
              replace Bp := (Bp.chg k1 (by simp)).chg k2 (by have := HL3.out; simp; omega)
              replace Bt := (Bt.chg k1 (by simp)).chg k2 (by have := HL3.out; simp; omega)
              have HDG : Hid (¬ db ∈ [cb]) := by have := HL3.out; show ¬ db ∈ [cb]; simp; omega
              have HTG : Hid (¬ tb ∈ [cb]) := by have := HTC.out; show ¬ tb ∈ [cb]; simp; omega
              have HPG : Hid (¬ pb ∈ [cb]) := by have := HPG0.out; show ¬ pb ∈ [cb]; simp; omega
              have HZG : Hid (¬ zb ∈ [cb]) := by have := HZC.out; show ¬ zb ∈ [cb]; simp; omega
              clear k1 k2 B0 hdb hZr
              refine wp_region_held_drew (S := fun w' => Chg wq w' [cb]) (by kernel_rfl) ((Chg.refl wq _).drew) (fun hHeld => ?_)
              replace Sq : Sb wq.drew cb N (mx X Y i F k) := Sq
              replace C := C.drew
              refine tv (v := ?_) 0 (some 61) rfl (by kernel_rfl) (fun _ _ _ h => h) rfl rfl (fun w hSw => ?_) hHeld ?_; rotate_left; (· (go_simp; try with_reducible rfl)); try simp only [Act.put, sA1, sA2, sA3]
              refine tv (v := ?_) 1 (some 62) rfl (by kernel_rfl) (fun _ _ _ h => h) rfl rfl (fun w hSw => ?_) hHeld ?_; rotate_left; (· (go_simp; try with_reducible rfl)); try simp only [Act.put, sA1, sA2, sA3]
              refine take_load 2 (some 63) (feC F) rfl (by kernel_rfl) (by kernel_rfl) (by kernel_rfl) (fun _ _ _ h => h) rfl rfl 24 _ rfl tb rfl 24 _ (fun w h => Bt.chg h HTG.out) Tryz.underlying24 rfl (by first | exact feInfo | kernel_rfl) hHeld ?_
              try simp only [Act.put, sA1, sA2, sA3]
              refine take_load 3 (some 64) (feC (zz X i k)) rfl (by kernel_rfl) (by kernel_rfl) (by kernel_rfl) (fun _ _ _ h => h) rfl rfl 24 _ rfl db rfl 24 _ (fun w h => Bd.chg h HDG.out) Tryz.underlying24 rfl (by first | exact feInfo | kernel_rfl) hHeld ?_
              try simp only [Act.put, sA1, sA2, sA3]
              refine tv (v := ?_) 4 (some 65) rfl (by kernel_rfl) (fun _ _ _ h => h) rfl rfl (fun w hSw => ?_) hHeld ?_; rotate_left; (· (go_simp; try with_reducible rfl)); try simp only [Act.put, sA1, sA2, sA3]
              refine tv (v := ?_) 5 (some 66) rfl (by kernel_rfl) (fun _ _ _ h => h) rfl rfl (fun w hSw => ?_) hHeld ?_; rotate_left; (· (go_simp; try with_reducible rfl)); try simp only [Act.put, sA1, sA2, sA3]
              refine tv (v := ?_) 6 (some 67) rfl (by kernel_rfl) (fun _ _ _ h => h) rfl rfl (fun w hSw => ?_) hHeld ?_; rotate_left; (· (go_simp; try with_reducible rfl)); try simp only [Act.put, sA1, sA2, sA3]
              refine wpAnyH_ready (rs := [7]) (by kernel_rfl) (by simp) ?_
              refine AllReadyH.cons (o := _) rfl (fun K hK => ?_) ?_
              ·
                rw [if_pos (by rfl)]
                refine wp_load_mid 24 _ rfl cb (k * 32) rfl (feL (cc X Y i k)) _ (HMX.out ▸ Sq.range HKN.out) Tryz.underlying24 rfl feInfo ?_
                refine hK.out _ _ (hHeld) (fun hHeld => ?_)
                clear hK K
                try simp only [Act.put, sA1, sA2, sA3]
                refine wpAnyH_ready (rs := [8]) (by kernel_rfl) (by simp) ?_
                refine AllReadyH.cons (o := _) rfl (fun K hK => ?_) ?_
                ·
                  go_simp
                  refine (MulAdd_o F _ _ HRFm.out HRz.out HRc.out _).mono ?_
                  rintro e w5 ⟨rfl, k5⟩
                  replace Sq := Sq.chg k5 (by simp)
                  replace C := C.trans1 k5
                  go_wp2_with fail
                  refine hK.out _ _ (hHeld.trans1 k5.wide) (fun hHeld => ?_)
                  clear hK K
                  try simp only [Act.put, sA1, sA2, sA3]
                  clear k5
                  refine tv (v := ?_) 9 (some 70) rfl (by kernel_rfl) (fun _ _ _ h => h) rfl rfl (fun w hSw => ?_) hHeld ?_; rotate_left; (· (go_simp; try with_reducible rfl)); try simp only [Act.put, sA1, sA2, sA3]
                  refine wpAnyH_ready (rs := [10]) (by kernel_rfl) (by simp) ?_
                  refine AllReadyH.cons (o := _) rfl (fun K hK => ?_) ?_
                  ·
                    rw [if_pos (by rfl)]
                    refine wp_store_sb _ _ rfl cb N k _ _ rfl rfl Sq HKN.out ?_
                    intro w6 S6 k6
                    refine hK.out _ _ (hHeld.trans1 k6) (fun hHeld => ?_)
                    clear hK K
                    try simp only [Act.put, sA1, sA2, sA3]
                    refine wpAnyH_done (by kernel_rfl) ?_ _
                    replace C := C.new k6 HCB.out
                    replace Bt := Bt.chg hHeld HTG.out
                    replace Bp := Bp.chg hHeld HPG.out
                    replace Sz := Sz.chg hHeld HZG.out
                    clear Sq k6 hHeld
                    go_wp2_with fail
                    go_roundw
                    case rel => exact ⟨k + 1, HK1.out, by go_num, S6.congr (fun j _ => mx_step X Y i F k j), Bt, Bp, Sz, C⟩
                    case measure => exact HMk.out
                  exact AllReadyH.nil
                exact AllReadyH.nil
              exact AllReadyH.nil
            · obtain rfl : k = i + 1 := by omega
              have hK : ¬ ((i : Int) + 1) < (i : Int) + 1 := by omega
              have SE : Sb wr cb N (cc X Y (i + 1)) := Sq.congr (fun j _ => by rw [← HFa.out]; exact mx_end X Y i j)
              have LZ := Sz.ls (by have := HN.out; have := HI.out; omega) (fun j hj => zz_r X i j hj) (Nat.le_refl _)
              have hxr := pt_x Bp
              clear h hk Sq HFa HRFm
              go_wp2_with (refine load_sc rfl _ rfl pb 0 (X i) rfl hxr ?_)
              refine (withZero_s _ (i + 1) (nT (zz X i)) (by have := HN.out; have := HI.out; omega) (X i) HRX.out wr LZ).mono ?_
              rintro e w5 ⟨zn, hzn, rfl, Zn, k⟩
              replace C := C.trans1 k
              have HZN : Hid (¬ zn = cb) := by have := SE.lt; show ¬ zn = cb; omega
              replace SE := SE.chg k (by simp)
              clear k hzn LZ hxr Sz Bp Bt
              go_wp2_with fail
              go_roundw
              case rel => exact ⟨i + 1, zn, HI.out, by go_num, by go_num, HZN.out, HNZ2.out, SE, Zn, C⟩
              case measure => exact HMs.out
    · obtain rfl : i = N := by omega
      have hI : ¬ (i : Int) < (i : Int) := by omega
      have HNZ : Hid (∀ j, j < i → ¬ zv X j = 0) := hnz
      clear hnz h
      go_wp2_with fail
      go_ret2
      exact ⟨Or.inr (Or.inr ⟨HN.out.1, HN.out.2, HNZ.out, cb, HCB.out, rfl, Sc0⟩), C⟩
end Go.Proofs.YtoafcaieifjoiaaGreat
