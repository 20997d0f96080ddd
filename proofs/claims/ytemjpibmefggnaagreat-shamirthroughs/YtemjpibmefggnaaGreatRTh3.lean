/- rimeref07.Through. -/
import Derived.Test.YtemjpibmefggnaaGreatRTh2
set_option linter.unusedVariables false
set_option linter.unusedSimpArgs false
set_option linter.unnecessarySimpa false
namespace Go.Proofs.YtemjpibmefggnaaGreat
open Go.RowKit N

/-- append(s, x), and where the new list lies. -/
theorem append_os2 {w : World} {ops : Array Oper} {rest : List Oper} {o : Oper} {a : Act} {Q : Exit → Act → World → Prop} (hgd : o.guard = none) (so xo : Operand)
    (ho : o.op = .call { callee := .builtin .append, args := #[so, xo], argTypes := #[22, 22] })
    (base : Nat) (v : Value) (gx : Nat) (l : List Int) (x : Int) (hs : a.eval so = v) (hxe : a.eval xo = .slice (some ⟨gx, 0, none⟩) 1 1) (hown : Os w base v l) (hx : Blk w gx (feC x) 24) (hl : l.length ≤ 2000000) (hbase : base ≤ w.heap.size)
    (h : ∀ v' w', Os w' base v' (l ++ [x]) → Chg w w' (ob v) → (∀ k, k ∈ ob v' → k ∈ ob v ∨ w.heap.size ≤ k) → wpList Tryz.prog ops Q rest (a.put o.dst v') w') : wpList Tryz.prog ops Q (o :: rest) a w := by
  obtain ⟨ii, hi, hz, h1, h2⟩ := scRowL
  have hR : Rl w 32 (.slice (some ⟨gx, 0, none⟩) 1 1) 1 (oS [x]) := ⟨oS_ok 1 [x], Or.inr ⟨gx, 0, 1, rfl, Nat.le_refl _, by omega, hx.lt, fun i hi => by
    obtain rfl : i = 0 := by omega
    exact (sb_one hx).range (i := 0) (by omega)⟩⟩
  refine wpList_append_r hgd so xo 22 ho 24 ii (.agg z32) 32 32 Tryz.underlying22 hi hz h1 h2 rfl (by omega) base v _ l.length 1 (oS l) (oS [x]) hs hxe hown hR (by omega) (by omega) (by omega) hbase ?_
  intro g cap w' O k hw _
  refine h _ w' ?_ k ?_
  · unfold Os
    rw [List.length_append]
    refine O.congr fun j hj => ?_
    unfold catR oS
    by_cases h : j < l.length
    · rw [if_pos h]; simp [List.getD_eq_getElem?_getD, List.getElem?_append_left h]
    · rw [if_neg h]; simp [List.getD_eq_getElem?_getD, List.getElem?_append_right (show l.length ≤ j by omega)]
  · intro q hq
    have e : q = g := by simpa [ob, Value.ownBlock] using hq
    subst e
    rcases hw with hw | hw
    · left; unfold ob; rw [hw]; simp
    · right; omega
theorem app_l {w : World} {g o : Nat} {x y : Int} (h : w.rangeAt g o (feL x ++ feL y)) : w.rangeAt g o (feL x) := fun j v hv => by
  have hj : j < 32 := by have := (List.getElem?_eq_some_iff.1 hv).1; rwa [feL_len] at this
  exact h j v (by rw [List.getElem?_append_left (by rw [feL_len]; exact hj)]; exact hv)
theorem app_r {w : World} {g o : Nat} {x y : Int} (h : w.rangeAt g o (feL x ++ feL y)) : w.rangeAt g (o + 32) (feL y) := fun j v hv => by
  have := h (32 + j) v (by rw [List.getElem?_append_right (by rw [feL_len]; omega), feL_len, Nat.add_sub_cancel_left]; exact hv)
  rw [← this]; congr 2; omega
theorem rd0_r (X : Nat → Int) (j : Nat) : R256 (rd0 X j) := r256_mod _
/-- What rimeref07.Through answers. -/
def TrP (X Y : Nat → Int) (N : Nat) (w : World) (e : Ending) (w' : World) : Prop :=
  ((N = 0 ∨ 255 < N) ∧ e = .returned (.tuple #[.slice none 0 0, .int .i64 8])) ∨
  (0 < N ∧ N ≤ 255 ∧ (∃ k i, k < i ∧ i < N ∧ rd0 X k = rd0 X i) ∧ e = .returned (.tuple #[.slice none 0 0, .int .i64 5])) ∨
  (0 < N ∧ N ≤ 255 ∧ (∀ k i, k < i → i < N → ¬ rd0 X k = rd0 X i) ∧ ∃ g, w.heap.size ≤ g ∧ e = .returned (.tuple #[.slice (some ⟨g, 0, none⟩) N N, .int .i64 0]) ∧ Sb w' g N (oc (rd0 X) (rd0 Y) N N))
set_option maxHeartbeats 32000000 in
set_option maxRecDepth 100000 in
theorem Through_r (v : Value) (N : Nat) (X Y : Nat → Int) (hN : N ≤ 4611686018427387904) (w : World) (hL : Pl w v N X Y) :
    Calls Tryz.prog 33 #[v] w fun e w' => TrP X Y N w e w' ∧ Chg w w' [] := by
  have hr := hL.2
  obtain ⟨p, cp, rfl, hp⟩ := hL.1.form
  clear hL
  by_cases h0 : N = 0
  · subst h0
    go_enter Tryz.func33, Tryz.ntmps33
    go_wp2_with fail
    go_ret2
    exact ⟨Or.inl ⟨Or.inl rfl, rfl⟩, Chg.refl w []⟩
  by_cases h1 : 255 < N
  · have hz : ¬ (N : Int) = 0 := by omega
    have hzz : ((N : Int) == 0) = false := by simp; omega
    have hb : (255 : Int) < (N : Int) := by omega
    have H1 : Hid (255 < N) := h1
    clear h0 h1 hN
    go_enter Tryz.func33, Tryz.ntmps33
    go_wp2_with fail
    go_ret2
    exact ⟨Or.inl ⟨Or.inr H1.out, rfl⟩, Chg.refl w []⟩
  have hz : ¬ (N : Int) = 0 := by omega
  have hzz : ((N : Int) == 0) = false := by simp; omega
  have hb : ¬ (255 : Int) < (N : Int) := by omega
  have HN : Hid (0 < N ∧ N ≤ 255) := by show 0 < N ∧ N ≤ 255; omega
  have HP : Hid (∀ i, i < N → ∃ g o, p = some ⟨g, o, none⟩ ∧ g < w.heap.size ∧ w.rangeAt g (o + i * 64) (pF X Y i)) := hp
  have HR : Hid (∀ j, j < N → R256 (X j) ∧ R256 (Y j)) := hr
  clear h0 h1 hN hp hr
  obtain ⟨ie, hie, hiz, his, _⟩ := scRowL
  have O0 : Os w w.heap.size (.slice none 0 0) (liL (rd0 X) 0) := OwnR.nil _ _ _ _ _
  have P0 : Os w w.heap.size (.slice none 0 0) (liL (rd0 Y) 0) := OwnR.nil _ _ _ _ _
  go_enter Tryz.func33, Tryz.ntmps33
  go_wp2_with fail
  go_loopw [4, 5, 6] (fun t4 t5 t wr => ∃ i : Nat, i ≤ N ∧ t = .int .i64 (i : Int) ∧ Os wr w.heap.size t4 (liL (rd0 X) i) ∧ Os wr w.heap.size t5 (liL (rd0 Y) i) ∧ (∀ k, k ∈ ob t4 → ¬ k ∈ ob t5) ∧ (∀ k q, k < q → q < i → ¬ rd0 X k = rd0 X q) ∧ Chg w wr []) (fun _ _ t _ => (N - intOf t).toNat)
  case atStart => exact ⟨0, Nat.zero_le _, rfl, O0, P0, fun k hk => by simp [ob, Value.ownBlock] at hk, fun k q _ hq => by omega, Chg.refl w []⟩
  case round =>
    clear O0 P0
    obtain ⟨i, hi, rfl, O, P, hD, hA, C⟩ := hrel
    have HDj : Hid (∀ k, k ∈ ob u4 → ¬ k ∈ ob u5) := hD
    have HAp : Hid (∀ k q, k < q → q < i → ¬ rd0 X k = rd0 X q) := hA
    clear hD hA
    by_cases h : i < N
    · have hI : (i : Int) < (N : Int) := by omega
      have hI0 : (0 : Int) ≤ (i : Int) := by omega
      have e1 : IntKind.i64.wrap ((i : Int) + 1) = (i : Int) + 1 := by have := HN.out; rw [IntKind.wrap_i64]; omega
      have HMs : Hid _ := mN N i h
      have HI : Hid (i < N) := h
      have HRX : Hid (R256 (X i)) := (HR.out i h).1
      have HRY : Hid (R256 (Y i)) := (HR.out i h).2
      obtain ⟨gp, o, rfl, hg, hF⟩ := HP.out i h
      have hF' : wr.rangeAt gp (o + i * 64) (feL (X i) ++ feL (Y i)) := rangeAt_chg hF hg C (by simp)
      have hX0 := app_l hF'
      have hY0 := app_r hF'
      have HGp : Hid (gp < wr.heap.size) := Nat.lt_of_lt_of_le hg C.size
      have HG4 : Hid (¬ gp ∈ ob u4) := fun hx => by have := (ob_own O gp hx).1; omega
      have HG5 : Hid (¬ gp ∈ ob u5) := fun hx => by have := (ob_own P gp hx).1; omega
      clear hF hg h hi hF'
      go_wp2_with (first
        | (with_reducible refine load_sc ?_ (.tmp 26) ?_ gp (o + i * 64) (X i) ?_ hX0 ?_
           · rfl
           · rfl
           · rfl)
        | (refine gl_build (by rfl) 24 #[] rfl (feC 0) (by kernel_rfl) ?_))
      refine (Add_q _ _ HRX.out r256_c0 _).mono ?_
      rintro e w1 ⟨rfl, k1⟩
      go_upto_region 9 with (first
        | (with_reducible refine alloc_w rfl 24 rfl (.agg z32) zeroSc z32 rfl ?_; intro xb w2 hxb Bx0 k2)
        | (refine store_w Bx0 rfl 24 _ _ (feC (rd0 X i)) rfl rfl rfl feInfo rfl (feC_one _) ?_; intro w3 Bx k3))
      have K3 : Chg wr w3 [] := (k1.trans1 k2).new k3 (by have := k1.size; omega)
      replace C := C.trans1 K3
      replace O := O.chg K3
      replace P := P.chg K3
      have hY3 := rangeAt_chg hY0 HGp.out K3 (by simp)
      have HGp3 : Hid (gp < w3.heap.size) := Nat.lt_of_lt_of_le HGp.out K3.size
      clear k1 k2 k3 K3 Bx0 hxb hX0 hY0
      go_wp2_with fail
      go_loopw [8] (fun t wk => ∃ k : Nat, k ≤ i ∧ t = .int .i64 (k : Int) ∧ (∀ j, j < k → ¬ rd0 X j = rd0 X i) ∧ Chg w3 wk []) (fun t _ => (i - intOf t).toNat)
      case atStart => exact ⟨0, Nat.zero_le _, rfl, fun j hj => by omega, Chg.refl _ _⟩
      case round =>
        obtain ⟨wk, rfl⟩ : ∃ z, z = wr := ⟨wr, rfl⟩
        obtain ⟨k, hk, rfl, hno, Ck⟩ := hrel
        have HNO : Hid (∀ j, j < k → ¬ rd0 X j = rd0 X i) := hno
        clear hno
        by_cases h : k < i
        · have hK : (k : Int) < (i : Int) := by omega
          have hK0 : (0 : Int) ≤ (k : Int) := by omega
          have ek : IntKind.i64.wrap ((k : Int) + 1) = (k : Int) + 1 := by have := HN.out; have := HI.out; rw [IntKind.wrap_i64]; omega
          have HMk : Hid _ := mN i k h
          have HK : Hid (k < i) := h
          have q0 : Rl w3 32 u4 i (oS (liL (rd0 X) i)) := by have q := OwnR.rl O; rwa [liL_len] at q
          obtain ⟨px, cx, hu4, hpx⟩ := q0.form
          obtain ⟨gl, ol, rfl, hgl, hrl⟩ := hpx k h
          have hXk0 : w3.rangeAt gl (ol + k * 32) (feL (rd0 X k)) := by unfold oS at hrl; rw [liL_get _ _ _ h] at hrl; exact hrl
          have hXk := rangeAt_chg hXk0 hgl Ck (by simp)
          have HGl : Hid (gl < wk.heap.size) := Nat.lt_of_lt_of_le hgl Ck.size
          replace Bx := Bx.chg Ck (by simp)
          subst hu4
          clear h hk hpx hrl hXk0 hgl q0 hY3
          by_cases he : rd0 X k = rd0 X i
          · have HEq : Hid (rd0 X k = rd0 X i) := he
            have hq : eqf (rd0 X k) (rd0 X i) = true := by rw [he]; exact eqf_self _
            clear he
            go_wp2_with fail
            refine wp_region_held_drew (S := fun w' => Chg wk w' []) (by kernel_rfl) ((Chg.refl wk _).drew) (fun hHeld => ?_)
            refine take_val (v := ?_) 0 (some 35) rfl (by kernel_rfl) (by kernel_rfl) (by kernel_rfl) (fun _ _ _ h => h) rfl rfl (fun w hSw => ?_) hHeld ?_
            rotate_left
            · (go_simp; try with_reducible rfl)
            try simp only [Act.put, List.setIfInBounds_toArray, List.set_cons_zero, List.set_cons_succ]
            refine take_val (v := ?_) 1 (some 36) rfl (by kernel_rfl) (by kernel_rfl) (by kernel_rfl) (fun _ _ _ h => h) rfl rfl (fun w hSw => ?_) hHeld ?_
            rotate_left
            · (go_simp; try with_reducible rfl)
            try simp only [Act.put, List.setIfInBounds_toArray, List.set_cons_zero, List.set_cons_succ]
            refine take_val (v := ?_) 2 (some 37) rfl (by kernel_rfl) (by kernel_rfl) (by kernel_rfl) (fun _ _ _ h => h) rfl rfl (fun w hSw => ?_) hHeld ?_
            rotate_left
            · (go_simp; try with_reducible rfl)
            try simp only [Act.put, List.setIfInBounds_toArray, List.set_cons_zero, List.set_cons_succ]
            refine take_val (v := (.agg (feC (rd0 X k)))) 3 (some 38) rfl (by kernel_rfl) (by kernel_rfl) (by kernel_rfl) (fun _ _ _ h => h) rfl rfl (fun w hSw => ?_) hHeld ?_
            · exact exec_load_m w 24 _ rfl gl (ol + k * 32) rfl (feL (rd0 X k)) _ (rangeAt_chg hXk HGl.out hSw (by simp)) Tryz.underlying24 rfl feInfo
            try simp only [Act.put, List.setIfInBounds_toArray, List.set_cons_zero, List.set_cons_succ]
            refine take_load 4 (some 39) (feC (rd0 X i)) rfl (by kernel_rfl) (by kernel_rfl) (by kernel_rfl) (fun _ _ _ h => h) rfl rfl 24 _ rfl xb rfl 24 _ (fun w h => Bx.chg h (by simp)) Tryz.underlying24 rfl (by first | exact feInfo | kernel_rfl) hHeld ?_
            try simp only [Act.put, List.setIfInBounds_toArray, List.set_cons_zero, List.set_cons_succ]
            refine take_val (v := (.bool true)) 5 (some 40) rfl (by kernel_rfl) (by kernel_rfl) (by kernel_rfl) (fun _ _ _ h => h) rfl rfl (fun w hSw => ?_) hHeld ?_
            · (go_simp; try with_reducible rfl)
            try simp only [Act.put, List.setIfInBounds_toArray, List.set_cons_zero, List.set_cons_succ]
            refine wpAnyH_done (by kernel_rfl) ?_ _
            have C9 := C.trans1 (Ck.trans1 hHeld)
            clear hHeld hXk
            go_wp2_with fail
            go_ret2
            exact ⟨Or.inr (Or.inl ⟨HN.out.1, HN.out.2, ⟨k, i, HK.out, HI.out, HEq.out⟩, rfl⟩), C9⟩
          · have HEq : Hid (¬ rd0 X k = rd0 X i) := he
            have hq : eqf (rd0 X k) (rd0 X i) = false := by rw [eqf_eq (rd0_r X k) (rd0_r X i), decide_eq_false he]
            clear he
            go_wp2_with fail
            refine wp_region_held_drew (S := fun w' => Chg wk w' []) (by kernel_rfl) ((Chg.refl wk _).drew) (fun hHeld => ?_)
            refine take_val (v := ?_) 0 (some 35) rfl (by kernel_rfl) (by kernel_rfl) (by kernel_rfl) (fun _ _ _ h => h) rfl rfl (fun w hSw => ?_) hHeld ?_
            rotate_left
            · (go_simp; try with_reducible rfl)
            try simp only [Act.put, List.setIfInBounds_toArray, List.set_cons_zero, List.set_cons_succ]
            refine take_val (v := ?_) 1 (some 36) rfl (by kernel_rfl) (by kernel_rfl) (by kernel_rfl) (fun _ _ _ h => h) rfl rfl (fun w hSw => ?_) hHeld ?_
            rotate_left
            · (go_simp; try with_reducible rfl)
            try simp only [Act.put, List.setIfInBounds_toArray, List.set_cons_zero, List.set_cons_succ]
            refine take_val (v := ?_) 2 (some 37) rfl (by kernel_rfl) (by kernel_rfl) (by kernel_rfl) (fun _ _ _ h => h) rfl rfl (fun w hSw => ?_) hHeld ?_
            rotate_left
            · (go_simp; try with_reducible rfl)
            try simp only [Act.put, List.setIfInBounds_toArray, List.set_cons_zero, List.set_cons_succ]
            refine take_val (v := (.agg (feC (rd0 X k)))) 3 (some 38) rfl (by kernel_rfl) (by kernel_rfl) (by kernel_rfl) (fun _ _ _ h => h) rfl rfl (fun w hSw => ?_) hHeld ?_
            · exact exec_load_m w 24 _ rfl gl (ol + k * 32) rfl (feL (rd0 X k)) _ (rangeAt_chg hXk HGl.out hSw (by simp)) Tryz.underlying24 rfl feInfo
            try simp only [Act.put, List.setIfInBounds_toArray, List.set_cons_zero, List.set_cons_succ]
            refine take_load 4 (some 39) (feC (rd0 X i)) rfl (by kernel_rfl) (by kernel_rfl) (by kernel_rfl) (fun _ _ _ h => h) rfl rfl 24 _ rfl xb rfl 24 _ (fun w h => Bx.chg h (by simp)) Tryz.underlying24 rfl (by first | exact feInfo | kernel_rfl) hHeld ?_
            try simp only [Act.put, List.setIfInBounds_toArray, List.set_cons_zero, List.set_cons_succ]
            refine take_val (v := (.bool false)) 5 (some 40) rfl (by kernel_rfl) (by kernel_rfl) (by kernel_rfl) (fun _ _ _ h => h) rfl rfl (fun w hSw => ?_) hHeld ?_
            · (go_simp; try with_reducible rfl)
            try simp only [Act.put, List.setIfInBounds_toArray, List.set_cons_zero, List.set_cons_succ]
            refine wpAnyH_done (by kernel_rfl) ?_ _
            replace Ck := Ck.trans1 hHeld
            clear hHeld hXk
            go_wp2_with fail
            go_roundw
            case rel => exact ⟨k + 1, HK.out, by go_num, fun j hj e => by
                    by_cases q : j = k
                    · subst q; exact HEq.out e
                    · exact HNO.out j (by omega) e, Ck⟩
            case measure => exact HMk.out
        · obtain rfl : i = k := by omega
          have hK : ¬ (i : Int) < (i : Int) := by omega
          replace C := C.trans1 Ck
          replace O := O.chg Ck
          replace P := P.chg Ck
          replace Bx := Bx.chg Ck (by simp)
          have hYk := rangeAt_chg hY3 HGp3.out Ck (by simp)
          have HGk : Hid (gp < wk.heap.size) := Nat.lt_of_lt_of_le HGp3.out Ck.size
          have HOB4 : Hid (∀ k, k ∈ ob u4 → w.heap.size ≤ k) := fun k hk => (ob_own O k hk).1
          have HPB5 : Hid (∀ k, k ∈ ob u5 → w.heap.size ≤ k ∧ k < wk.heap.size) := fun k hk => ob_own P k hk
          have HCz : Hid (w.heap.size ≤ wk.heap.size) := C.size
          clear h hk Ck hY3
          go_upto_region 15 with (first
            | (with_reducible refine load_b Bx 24 (.tmp 7) Tryz.underlying24 ?_ ?_ ?_ ?_ ?_ ?_
               · rfl
               · rfl
               · rfl
               · rfl
               · exact feInfo)
            | (with_reducible refine bslice_w ?_ 22 24 (.tmp 42) ?_ (fe (rd0 X i)) ?_ (feC (rd0 X i)) ie (.agg z32) Tryz.underlying22 hie hiz 32 his ?_ ?_ (fill_sc _) ?_
               · rfl
               · rfl
               · rfl
               · omega
               · omega
               intro gx w4 hgx Bg k4)
            | (with_reducible refine append_os2 ?_ (.tmp 41) (.tmp 43) ?_ w.heap.size u4 gx (liL (rd0 X) i) (rd0 X i) ?_ ?_ (O.chg k4) Bg ?_ ?_ ?_
               · rfl
               · rfl
               · rfl
               · rfl
               · rw [liL_len]; have := HN.out; have := HI.out; omega
               · have := HCz.out; have := k4.size; omega
               intro v4 w5 O5 k5 hw5))
          have HD5 : Hid (∀ k, k ∈ ob v4 → ¬ k ∈ ob u5) := fun k hk hk5 => by
            rcases hw5 k hk with q | q
            · exact HDj.out k q hk5
            · have := (HPB5.out k hk5).2; have := k4.size; omega
          have P5 := OwnR.chg (P.chg k4) k5 (fun k hk hk4 => HDj.out k hk4 hk)
          have hY5 := rangeAt_chg (rangeAt_chg hYk HGk.out k4 (by simp)) (Nat.lt_of_lt_of_le HGk.out k4.size) k5 HG4.out
          replace C := (C.trans1 k4).trans k5 (fun k hk => Or.inr (HOB4.out k hk))
          have HGp5 : Hid (gp < w5.heap.size) := by have := HGk.out; have := k4.size; have := k5.size; show gp < w5.heap.size; omega
          have HCz5 : Hid (w.heap.size ≤ w5.heap.size) := C.size
          have HO4 : Hid (∀ k, k ∈ ob v4 → w.heap.size ≤ k ∧ k < w5.heap.size) := fun k hk => ob_own O5 k hk
          have HP5 : Hid (∀ k, k ∈ ob u5 → w.heap.size ≤ k) := fun k hk => (HPB5.out k hk).1
          rw [← liL_s] at O5
          clear k4 k5 hw5 Bg hgx O P Bx hYk
          go_wp2_with (first
            | (with_reducible refine load_sc ?_ (.tmp 49) ?_ gp (o + i * 64 + 32) (Y i) ?_ hY5 ?_
               · rfl
               · rfl
               · rfl)
            | (refine gl_build (by rfl) 24 #[] rfl (feC 0) (by kernel_rfl) ?_))
          refine (Add_q _ _ HRY.out r256_c0 _).mono ?_
          rintro e w6 ⟨rfl, k6⟩
          have P6 : Os w6 w.heap.size u5 (liL (rd0 Y) i) := Os.chg P5 k6
          replace C := C.trans1 k6
          have O6 := O5.chg k6
          have HCz6 : Hid (w.heap.size ≤ w6.heap.size) := C.size
          have HO6 : Hid (∀ k, k ∈ ob v4 → k < w6.heap.size) := fun k hk => by have := (HO4.out k hk).2; have := k6.size; omega
          clear k6 P5 O5 hY5
          go_wp2_with (first
            | (with_reducible refine bslice_w ?_ 22 24 (.tmp 52) ?_ (fe (ad (Y i) 0)) ?_ (feC (ad (Y i) 0)) ie (.agg z32) Tryz.underlying22 hie hiz 32 his ?_ ?_ (fill_sc _) ?_
               · rfl
               · rfl
               · rfl
               · omega
               · omega
               intro gx w7 hgx Bg k7)
            | (with_reducible refine append_os2 ?_ (.tmp 45) (.tmp 53) ?_ w.heap.size u5 gx (liL (rd0 Y) i) (ad (Y i) 0) ?_ ?_ (P6.chg k7) Bg ?_ ?_ ?_
               · rfl
               · rfl
               · rfl
               · rfl
               · rw [liL_len]; have := HN.out; have := HI.out; omega
               · have := HCz6.out; have := k7.size; omega
               intro v5 w8 P8 k8 hw8))
          have HD8 : Hid (∀ k, k ∈ ob v4 → ¬ k ∈ ob v5) := fun k hk hk5 => by
            rcases hw8 k hk5 with q | q
            · exact HD5.out k hk q
            · have := HO6.out k hk; have := k7.size; omega
          have O8 : Os w8 w.heap.size v4 (liL (rd0 X) (i + 1)) := OwnR.chg (O6.chg k7) k8 (fun k hk hk5 => HD5.out k hk hk5)
          replace C := (C.trans1 k7).trans k8 (fun k hk => Or.inr (HP5.out k hk))
          replace P8 : Os w8 w.heap.size v5 (liL (rd0 Y) (i + 1)) := by rw [liL_s]; exact P8
          clear k7 k8 hw8 Bg hgx O6 P6
          go_roundw
          case rel => exact ⟨i + 1, HI.out, by go_num, O8, P8, HD8.out, fun k q hk hq e => by
            by_cases h : q = i
            · subst h; exact HNO.out k hk e
            · exact HAp.out k q hk (by omega) e, C⟩
          case measure => exact HMs.out
    · obtain rfl : N = i := by omega
      have hI : ¬ (N : Int) < (N : Int) := by omega
      have LX := O.pl (fun j _ => r256_mod _)
      have LY := P.pl (fun j _ => r256_mod _)
      clear h hi
      go_wp2_with fail
      refine (coefs_r _ _ N (rd0 X) (rd0 Y) (fun j _ => r256_mod _) (fun j _ => r256_mod _) HN.out.2 (rd0_inj HAp.out) wr LX LY).mono ?_
      rintro e w2 ⟨g, hg, rfl, S, k⟩
      have HCz : Hid (w.heap.size ≤ g) := by have := C.size; show w.heap.size ≤ g; omega
      clear LX LY hg
      go_wp2_with fail
      go_ret2
      exact ⟨Or.inr (Or.inr ⟨HN.out.1, HN.out.2, HAp.out, g, HCz.out, rfl, S⟩), C.trans1 k⟩
end Go.Proofs.YtemjpibmefggnaaGreat
