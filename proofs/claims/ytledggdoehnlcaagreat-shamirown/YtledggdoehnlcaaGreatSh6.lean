/- shamir.throughShares, strays, checkEnough, Recover. -/
import Derived.Test.YtledggdoehnlcaaGreatSh5
set_option linter.unusedVariables false
set_option linter.unusedSimpArgs false
set_option linter.unnecessarySimpa false
namespace Go.Proofs.YtledggdoehnlcaaGreat
open Go.RowKit N

set_option maxHeartbeats 16000000 in
set_option maxRecDepth 100000 in
theorem throughShares_s (v : Value) (N : Nat) (d y : Nat → Int) (h0 : 0 < N) (hN : N ≤ 255) (hd : ∀ i, i < N → 1 ≤ d i ∧ d i ≤ 255) (hz : ∀ j, j < N → ¬ zv d j = 0) (w : World) (hL : Hl w v N d y) :
    Calls Tryz.prog 43 #[v] w fun e w' => ∃ g, w.heap.size ≤ g ∧ e = .returned (.slice (some ⟨g, 0, none⟩) N N) ∧ Sb w' g N (cc d y N) ∧ Chg w w' [] := by
  have HRy : Hid (∀ j, j < N → R256 (y j)) := hL.2
  obtain ⟨p, cp, rfl, hp⟩ := hL.1.form
  have HP : Hid (∀ i, i < N → ∃ g o, p = some ⟨g, o, none⟩ ∧ g < w.heap.size ∧ w.rangeAt g (o + i * 33) (hF d y i)) := hp
  have HN : Hid (0 < N ∧ N ≤ 255) := ⟨h0, hN⟩
  have HD : Hid (∀ i, i < N → 1 ≤ d i ∧ d i ≤ 255) := hd
  have HZ : Hid (∀ j, j < N → ¬ zv d j = 0) := hz
  clear hp hL h0 hN hd hz
  go_enter Tryz.func43, Tryz.ntmps43
  go_wp2_with (refine make_pb rfl _ _ rfl N (by have := HN.out; omega) rfl rfl ?_; intro pb w1 hpb P0 C)
  have HPB : Hid (w.heap.size ≤ pb) := hpb
  have P1 : Pb w1 pb N (fun j => if j < 0 then d j else 0) (fun j => if j < 0 then y j else 0) := P0.congr (fun j _ => (if_neg (by omega)).symm) (fun j _ => (if_neg (by omega)).symm)
  clear P0 hpb
  go_loopw [13] (fun t wr => ∃ i : Nat, i ≤ N ∧ t = .int .i64 (i : Int) ∧ Pb wr pb N (fun j => if j < i then d j else 0) (fun j => if j < i then y j else 0) ∧ Chg w wr []) (fun t _ => (N - intOf t).toNat)
  case atStart => exact ⟨0, Nat.zero_le _, rfl, P1, C⟩
  case round =>
    clear P1 C
    obtain ⟨i, hi, rfl, P, C⟩ := hrel
    by_cases h : i < N
    · have hI : (i : Int) < (N : Int) := by omega
      have hI0 : (0 : Int) ≤ (i : Int) := by omega
      have e1 : IntKind.i64.wrap ((i : Int) + 1) = (i : Int) + 1 := by have := HN.out; rw [IntKind.wrap_i64]; omega
      have HMs : Hid _ := mN N i h
      have HI : Hid (i < N) := h
      have HPl : Hid (0 ≤ d i ∧ d i < 9223372036854775808) := by have := HD.out i h; show 0 ≤ d i ∧ d i < 9223372036854775808; omega
      obtain ⟨gp, o, rfl, hg, hF⟩ := HP.out i h
      have hF' : wr.rangeAt gp (o + i * 33) (.int .i64 (d i) :: feL (y i)) := rangeAt_chg hF hg C (by simp)
      have HCz : Hid (w.heap.size ≤ wr.heap.size) := C.size
      have HGl : Hid (pb < wr.heap.size) := P.lt
      clear hF hg h hi
      go_wp2_with (first
        | (refine load_sh rfl _ rfl gp (o + i * 33) (d i) (y i) rfl hF' ?_)
        | (refine alloc_w rfl 28 rfl (.agg zSh) zeroSh zSh rfl ?_; intro sb w1 hsb B0 k1)
        | (refine store_w B0 rfl 28 _ _ (shC (d i) (y i)) rfl rfl rfl shInfo rfl (shC_one _ _) ?_; intro wq Bs k2))
      replace C := (C.trans1 k1).new k2 (by have := HCz.out; omega)
      replace P := (P.chg k1 (by simp)).chg k2 (by have := HGl.out; simp; omega)
      have HSG : Hid (¬ sb ∈ [pb]) := by have := HGl.out; show ¬ sb ∈ [pb]; simp; omega
      clear k1 k2 B0 hsb hF'
      refine wp_region_held_drew (S := fun w' => Chg wq w' [pb]) (by kernel_rfl) ((Chg.refl wq _).drew) (fun hHeld => ?_)
      replace P : Pb wq.drew pb N (fun j => if j < i then d j else 0) (fun j => if j < i then y j else 0) := P
      replace C := C.drew
      refine take_val (v := ?_) 0 (some 18) rfl (by kernel_rfl) (by kernel_rfl) (by kernel_rfl) (fun _ _ _ h => h) rfl rfl (fun w hSw => ?_) hHeld ?_
      rotate_left
      · (go_simp; try with_reducible rfl)
      try simp only [Act.put, List.setIfInBounds_toArray, List.set_cons_zero, List.set_cons_succ]
      refine take_val (v := ?_) 1 (some 19) rfl (by kernel_rfl) (by kernel_rfl) (by kernel_rfl) (fun _ _ _ h => h) rfl rfl (fun w hSw => ?_) hHeld ?_
      rotate_left
      · (go_simp; try with_reducible rfl)
      try simp only [Act.put, List.setIfInBounds_toArray, List.set_cons_zero, List.set_cons_succ]
      refine take_val (v := ?_) 2 (some 20) rfl (by kernel_rfl) (by kernel_rfl) (by kernel_rfl) (fun _ _ _ h => h) rfl rfl (fun w hSw => ?_) hHeld ?_
      rotate_left
      · (go_simp; try with_reducible rfl)
      try simp only [Act.put, List.setIfInBounds_toArray, List.set_cons_zero, List.set_cons_succ]
      refine take_val (v := (.int .i64 (d i))) 3 (some 21) rfl (by kernel_rfl) (by kernel_rfl) (by kernel_rfl) (fun _ _ _ h => h) rfl rfl (fun w hSw => ?_) hHeld ?_
      · have hcc := sh_id (Bs.chg hSw HSG.out)
        (go_simp; try with_reducible rfl)
      try simp only [Act.put, List.setIfInBounds_toArray, List.set_cons_zero, List.set_cons_succ]
      refine take_val (v := ?_) 5 (some 23) rfl (by kernel_rfl) (by kernel_rfl) (by kernel_rfl) (fun _ _ _ h => h) rfl rfl (fun w hSw => ?_) hHeld ?_
      rotate_left
      · (go_simp; try with_reducible rfl)
      try simp only [Act.put, List.setIfInBounds_toArray, List.set_cons_zero, List.set_cons_succ]
      refine take_val (v := (.agg (feC (y i)))) 6 (some 24) rfl (by kernel_rfl) (by kernel_rfl) (by kernel_rfl) (fun _ _ _ h => h) rfl rfl (fun w hSw => ?_) hHeld ?_
      · exact exec_load_m w 24 _ rfl sb 1 rfl (feL (y i)) _ (sh_val (Bs.chg hSw HSG.out)) Tryz.underlying24 rfl feInfo
      try simp only [Act.put, List.setIfInBounds_toArray, List.set_cons_zero, List.set_cons_succ]
      refine wpAnyH_ready (rs := [4]) (by kernel_rfl) (by simp) ?_
      refine AllReadyH.cons (o := _) rfl (fun K hK => ?_) ?_
      ·
        go_simp
        refine (place_s (d i) HPl.out _).mono ?_
        rintro e w5 ⟨rfl, k⟩
        replace P := P.chg k (by simp)
        replace C := C.trans1 k
        go_wp2_with fail
        refine hK.out _ _ (hHeld.trans1 k.wide) (fun hHeld => ?_)
        clear hK K
        try simp only [Act.put, List.setIfInBounds_toArray, List.set_cons_zero, List.set_cons_succ]
        clear k
        refine take_val (v := (.agg (ptC (d i) (y i)))) 7 (some 25) rfl (by kernel_rfl) (by kernel_rfl) (by kernel_rfl) (fun _ _ _ h => h) rfl rfl (fun w hSw => ?_) hHeld ?_
        · exact exec_build2 w 97 0 1 (.tmp 22) (.tmp 24) rfl (fe (d i)) (fe (y i)) rfl rfl (ptC (d i) (y i)) (built_pt _ _)
        try simp only [Act.put, List.setIfInBounds_toArray, List.set_cons_zero, List.set_cons_succ]
        refine take_val (v := ?_) 8 (some 26) rfl (by kernel_rfl) (by kernel_rfl) (by kernel_rfl) (fun _ _ _ h => h) rfl rfl (fun w hSw => ?_) hHeld ?_
        rotate_left
        · (go_simp; try with_reducible rfl)
        try simp only [Act.put, List.setIfInBounds_toArray, List.set_cons_zero, List.set_cons_succ]
        refine wpAnyH_ready (rs := [9]) (by kernel_rfl) (by simp) ?_
        refine AllReadyH.cons (o := _) rfl (fun K hK => ?_) ?_
        ·
          rw [if_pos (by rfl)]
          refine wp_store_pb _ _ rfl pb N i _ _ (d i) (y i) rfl rfl P HI.out ?_
          intro w6 P6 k6
          refine hK.out _ _ (hHeld.trans1 k6) (fun hHeld => ?_)
          clear hK K
          try simp only [Act.put, List.setIfInBounds_toArray, List.set_cons_zero, List.set_cons_succ]
          refine wpAnyH_done (by kernel_rfl) ?_ _
          replace C := C.new k6 HPB.out
          clear P k6 hHeld
          go_wp2_with fail
          go_roundw
          case rel => exact ⟨i + 1, HI.out, by go_num, P6.congr (fun j _ => upS_step d i j) (fun j _ => upS_step y i j), C⟩
          case measure => exact HMs.out
        exact AllReadyH.nil
      exact AllReadyH.nil
    · obtain rfl : i = N := by omega
      have hI : ¬ (i : Int) < (i : Int) := by omega
      have LP := (P.congr (d' := d) (y' := y) (fun j hj => if_pos hj) (fun j hj => if_pos hj)).pl (by have := HN.out; omega) (fun j hj => by have := HD.out j hj; unfold R256; omega) HRy.out
      clear h P
      go_wp2_with fail
      refine (Through_s _ i d y (by have := HN.out; omega) wr LP).mono ?_
      rintro e w5 ⟨h5, k⟩
      have HCz : Hid (w.heap.size ≤ wr.heap.size) := C.size
      replace C := C.trans1 k
      rcases h5 with ⟨hbad, _⟩ | ⟨_, _, ⟨q, hq1, hq2, _⟩, _⟩ | ⟨_, _, _, g, hg, rfl, S⟩
      · exfalso; have := HN.out; omega
      · exact absurd hq2 (HZ.out q hq1)
      · go_wp2_with fail
        go_ret
        exact ⟨g, by have := HCz.out; omega, rfl, S, C⟩
/-! ### Lists of ints of the call's own -/
def oI (l : List Int) : Nat → List Value := fun j => [.int .i64 (l.getD j 0)]
theorem oI_ok (n : Nat) (l : List Int) : Rok 1 n (oI l) := fun i _ => ⟨rfl, fun v hv => by unfold oI at hv; simp at hv; subst hv; rfl⟩
def Oi (w : World) (base : Nat) (v : Value) (l : List Int) : Prop := OwnR w base 3 1 v l.length (oI l)
theorem Oi.nil (w : World) (base : Nat) : Oi w base (.slice none 0 0) [] := OwnR.nil w base _ _ _
theorem Oi.chg {w w' : World} {base : Nat} {v : Value} {l : List Int} (h : Oi w base v l) (hc : Chg w w' []) : Oi w' base v l := OwnR.chg h hc (fun _ _ => by simp)
theorem ob_own {w : World} {base : Nat} {T : TypeId} {s : Nat} {v : Value} {n : Nat} {F : Nat → List Value} (h : OwnR w base T s v n F) : ∀ k ∈ ob v, base ≤ k ∧ k < w.heap.size := by
  intro k hk
  exact World.ownsRow.lt h.1 k (by unfold ob at hk; cases hq : v.ownBlock with
    | none => rw [hq] at hk; simp at hk
    | some x => rw [hq] at hk; simp at hk; rw [hk])
theorem Oi.keep {w w0 w' : World} {base : Nat} {v : Value} {l : List Int} {b : Nat} (h : Oi w base v l) (hc : Chg w w' [b]) (hb : w0.heap.size ≤ b) (h0 : Oi w0 base v l) : Oi w' base v l := OwnR.chg h hc (fun k hk => by have := (ob_own h0 k hk).2; simp; omega)
theorem OwnR.congr {w : World} {base : Nat} {T : TypeId} {s : Nat} {v : Value} {n : Nat} {F G : Nat → List Value} (h : OwnR w base T s v n F) (hF : ∀ j, j < n → F j = G j) : OwnR w base T s v n G := by
  refine ⟨?_, fun i hi => by rw [← hF i hi]; exact h.2 i hi⟩
  rw [← rL_congr hF]
  exact h.1
theorem intRowS : ∃ i, Tryz.prog.info? 3 = some i ∧ i.zero = some (.int .i64 0) ∧ i.size = 1 ∧ i.bytes = 8 := by
  have h : (Tryz.prog.info? 3).map (fun i => (i.zero, i.size, i.bytes)) = some (some (.int .i64 0), 1, 8) := by kernel_rfl
  cases hi : Tryz.prog.info? 3 with
  | none => rw [hi] at h; simp at h
  | some i => rw [hi] at h; simp at h; exact ⟨i, rfl, h.1, h.2.1, h.2.2⟩
theorem fill_int (x : Int) : Instr.fill (fun i => some (i * 1, 1)) ((Array.range (1 * 1)).map ((Value.int .i64 0).cells[· % (Value.int .i64 0).cells.size]!)) [(0, .int .i64 x)] = some #[.int .i64 x] := by kernel_rfl
/-- append(s, x), x an int. -/
theorem append_oi {w : World} {ops : Array Oper} {rest : List Oper} {o : Oper} {a : Act} {Q : Exit → Act → World → Prop} (hgd : o.guard = none) (so xo : Operand)
    (ho : o.op = .call { callee := .builtin .append, args := #[so, xo], argTypes := #[26, 26] })
    (base : Nat) (v : Value) (gx : Nat) (l : List Int) (x : Int) (hs : a.eval so = v) (hxe : a.eval xo = .slice (some ⟨gx, 0, none⟩) 1 1) (hown : Oi w base v l) (hx : Blk w gx #[.int .i64 x] 3) (hl : l.length ≤ 17592186044000) (hbase : base ≤ w.heap.size)
    (h : ∀ v' w', Oi w' base v' (l ++ [x]) → Chg w w' (ob v) → wpList Tryz.prog ops Q rest (a.put o.dst v') w') : wpList Tryz.prog ops Q (o :: rest) a w := by
  obtain ⟨ii, hi, hz, h1, h2⟩ := intRowS
  have hR : Rl w 1 (.slice (some ⟨gx, 0, none⟩) 1 1) 1 (oI [x]) := ⟨oI_ok 1 [x], Or.inr ⟨gx, 0, 1, rfl, Nat.le_refl _, by omega, hx.lt, fun i hi j u hu => by
    obtain rfl : i = 0 := by omega
    have hj : j = 0 := by
      have := (List.getElem?_eq_some_iff.1 hu).1
      simp [oI] at this
      exact this
    subst hj
    simp [oI] at hu
    subst hu
    rw [hx.cell]
    rfl⟩⟩
  refine wpList_append_r hgd so xo 26 ho 3 ii (.int .i64 0) 1 8 Tryz.underlying26 hi hz h1 h2 rfl (by omega) base v _ l.length 1 (oI l) (oI [x]) hs hxe hown hR (by omega) (by omega) (by omega) hbase ?_
  intro g cap w' O k _ _
  refine h _ w' ?_ k
  unfold Oi
  rw [List.length_append]
  refine O.congr fun j hj => ?_
  unfold catR oI
  by_cases h : j < l.length
  · rw [if_pos h]; simp [List.getD_eq_getElem?_getD, List.getElem?_append_left h]
  · rw [if_neg h]; simp [List.getD_eq_getElem?_getD, List.getElem?_append_right (show l.length ≤ j by omega)]
/-- The identifiers whose shares do not lie on the polynomial. -/
def stL (f : Nat → Nat) (M : Nat) (d y : Nat → Int) : Nat → List Int
  | 0 => []
  | k + 1 => if ev f (d k) 0 M = cn (y k) then stL f M d y k else stL f M d y k ++ [d k]
theorem stL_len (f : Nat → Nat) (M : Nat) (d y : Nat → Int) : ∀ k, (stL f M d y k).length ≤ k
  | 0 => Nat.le_refl _
  | k + 1 => by
    have := stL_len f M d y k
    unfold stL
    by_cases h : ev f (d k) 0 M = cn (y k)
    · rw [if_pos h]; omega
    · rw [if_neg h, List.length_append]; simp; omega
theorem cmpI_zero (a b : Int) : cmpI a b = 0 ↔ a = b := by
  unfold cmpI
  by_cases h : a < b
  · rw [if_pos h]; omega
  · rw [if_neg h]
    by_cases h2 : a = b
    · rw [if_pos h2]; omega
    · rw [if_neg h2]; omega
set_option maxHeartbeats 16000000 in
set_option maxRecDepth 100000 in
theorem strays_s (v u : Value) (M : Nat) (f : Nat → Nat) (hM : M ≤ 4611686018427387904) (N : Nat) (d y : Nat → Int) (hN : N ≤ 255) (hd : ∀ i, i < N → 1 ≤ d i ∧ d i ≤ 255) (w : World) (hC : Ls w v M f) (hL : Hl w u N d y) :
    Calls Tryz.prog 45 #[v, u] w fun e w' => ∃ r, e = .returned r ∧ Oi w' w.heap.size r (stL f M d y N) ∧ Chg w w' [] := by
  have HRy : Hid (∀ j, j < N → R256 (y j)) := hL.2
  obtain ⟨p, cp, rfl, hp⟩ := hL.1.form
  have HLc : Hid (Ls w v M f) := hC
  obtain ⟨pc, cv, rfl, _⟩ := hC.form
  have HP : Hid (∀ i, i < N → ∃ g o, p = some ⟨g, o, none⟩ ∧ g < w.heap.size ∧ w.rangeAt g (o + i * 33) (hF d y i)) := hp
  have HN : Hid (N ≤ 255) := hN
  have HM : Hid (M ≤ 4611686018427387904) := hM
  have HD : Hid (∀ i, i < N → 1 ≤ d i ∧ d i ≤ 255) := hd
  have O0 := Oi.nil w w.heap.size
  clear hp hL hN hd hC hM
  obtain ⟨ie, hie, hiz, his, _⟩ := intRowS
  go_enter Tryz.func45, Tryz.ntmps45
  go_wp2_with fail
  go_loopw [5, 10] (fun o t wr => ∃ i : Nat, i ≤ N ∧ t = .int .i64 (i : Int) ∧ Oi wr w.heap.size o (stL f M d y i) ∧ Chg w wr []) (fun _ t _ => (N - intOf t).toNat)
  case atStart => exact ⟨0, Nat.zero_le _, rfl, O0, Chg.refl w []⟩
  case round =>
    clear O0
    obtain ⟨i, hi, rfl, O, C⟩ := hrel
    by_cases h : i < N
    · have hI : (i : Int) < (N : Int) := by omega
      have hI0 : (0 : Int) ≤ (i : Int) := by omega
      have e1 : IntKind.i64.wrap ((i : Int) + 1) = (i : Int) + 1 := by have := HN.out; rw [IntKind.wrap_i64]; omega
      have HMs : Hid _ := mN N i h
      have HI : Hid (i < N) := h
      have HPl : Hid (0 ≤ d i ∧ d i < 9223372036854775808) := by have := HD.out i h; show 0 ≤ d i ∧ d i < 9223372036854775808; omega
      have HX : Hid (R256 (d i)) := by have := HD.out i h; show R256 (d i); unfold R256; omega
      have HRY : Hid (R256 (y i)) := HRy.out i h
      have HLn : Hid ((stL f M d y i).length ≤ i) := stL_len f M d y i
      have HST : Hid (stL f M d y (i + 1) = if ev f (d i) 0 M = cn (y i) then stL f M d y i else stL f M d y i ++ [d i]) := rfl
      have HCE : Hid (cmpI (cn (ev f (d i) 0 M)) (cn (y i)) = 0 ↔ ev f (d i) 0 M = cn (y i)) := by
        have hq : cn (ev f (d i) 0 M) = ev f (d i) 0 M := Int.emod_eq_of_lt (ev_rl f (d i) M 0).1 (by have := (ev_rl f (d i) M 0).2; unfold L; exact this)
        show cmpI (cn (ev f (d i) 0 M)) (cn (y i)) = 0 ↔ ev f (d i) 0 M = cn (y i)
        rw [hq]
        exact cmpI_zero _ _
      obtain ⟨gp, o, rfl, hg, hF⟩ := HP.out i h
      have hF' : wr.rangeAt gp (o + i * 33) (.int .i64 (d i) :: feL (y i)) := rangeAt_chg hF hg C (by simp)
      have HCz : Hid (w.heap.size ≤ wr.heap.size) := C.size
      clear hF hg h hi
      go_upto_region 5 with (first
        | (refine load_sh rfl _ rfl gp (o + i * 33) (d i) (y i) rfl hF' ?_)
        | (refine alloc_w rfl 28 rfl (.agg zSh) zeroSh zSh rfl ?_; intro sb w1 hsb B0 k1)
        | (refine store_w B0 rfl 28 _ _ (shC (d i) (y i)) rfl rfl rfl shInfo rfl (shC_one _ _) ?_; intro wq Bs k2))
      have HSB : Hid (w.heap.size ≤ sb) := by have := HCz.out; show w.heap.size ≤ sb; omega
      replace O := (O.chg k1).keep k2 hsb O
      replace C := (C.trans1 k1).new k2 HSB.out
      have Bq : Hid (Blk wq sb (shC (d i) (y i)) 28) := Bs
      clear k1 k2 B0 hF' hsb
      have HO : Hid (Oi wq w.heap.size u5 (stL f M d y i)) := O
      have HCq : Hid (Chg w wq []) := C
      obtain ⟨c, hc⟩ : ∃ c, cmpI (cn (ev f (d i) 0 M)) (cn (y i)) = c := ⟨_, rfl⟩
      have HC0 : Hid (c = 0 ↔ ev f (d i) 0 M = cn (y i)) := by rw [← hc]; exact HCE
      have HCC : Hid (cmpI (cn (ev f (d i) 0 M)) (cn (y i)) = c) := hc
      clear hc HCE O C
      simp only [Act.put, List.setIfInBounds_toArray, List.set_cons_zero, List.set_cons_succ]
      go_cut [22] (fun t wc => ∃ q : Bool, t = .bool q ∧ (q = false ↔ ev f (d i) 0 M = cn (y i)) ∧ Chg wq wc [])
      case first =>
        refine wp_region_held_drew (S := fun w' => Chg wq w' []) (by kernel_rfl) ((Chg.refl wq _).drew) (fun hHeld => ?_)
        refine take_val (v := ?_) 0 (some 14) rfl (by kernel_rfl) (by kernel_rfl) (by kernel_rfl) (fun _ _ _ h => h) rfl rfl (fun w hSw => ?_) hHeld ?_
        rotate_left
        · (go_simp; try with_reducible rfl)
        try simp only [Act.put, List.setIfInBounds_toArray, List.set_cons_zero, List.set_cons_succ]
        refine take_val (v := ?_) 1 (some 15) rfl (by kernel_rfl) (by kernel_rfl) (by kernel_rfl) (fun _ _ _ h => h) rfl rfl (fun w hSw => ?_) hHeld ?_
        rotate_left
        · (go_simp; try with_reducible rfl)
        try simp only [Act.put, List.setIfInBounds_toArray, List.set_cons_zero, List.set_cons_succ]
        refine take_val (v := (.int .i64 (d i))) 2 (some 16) rfl (by kernel_rfl) (by kernel_rfl) (by kernel_rfl) (fun _ _ _ h => h) rfl rfl (fun w hSw => ?_) hHeld ?_
        · have hcc := sh_id (Bq.out.chg hSw (by simp))
          (go_simp; try with_reducible rfl)
        try simp only [Act.put, List.setIfInBounds_toArray, List.set_cons_zero, List.set_cons_succ]
        refine take_val (v := ?_) 5 (some 19) rfl (by kernel_rfl) (by kernel_rfl) (by kernel_rfl) (fun _ _ _ h => h) rfl rfl (fun w hSw => ?_) hHeld ?_
        rotate_left
        · (go_simp; try with_reducible rfl)
        try simp only [Act.put, List.setIfInBounds_toArray, List.set_cons_zero, List.set_cons_succ]
        refine take_val (v := (.agg (feC (y i)))) 6 (some 20) rfl (by kernel_rfl) (by kernel_rfl) (by kernel_rfl) (fun _ _ _ h => h) rfl rfl (fun w hSw => ?_) hHeld ?_
        · exact exec_load_m w 24 _ rfl sb 1 rfl (feL (y i)) _ (sh_val (Bq.out.chg hSw (by simp))) Tryz.underlying24 rfl feInfo
        try simp only [Act.put, List.setIfInBounds_toArray, List.set_cons_zero, List.set_cons_succ]
        refine wpAnyH_ready (rs := [3]) (by kernel_rfl) (by simp) ?_
        refine AllReadyH.cons (o := _) rfl (fun K hK => ?_) ?_
        ·
          go_simp
          refine (place_s (d i) HPl.out _).mono ?_
          rintro e w5 ⟨rfl, k⟩
          go_wp2_with fail
          refine hK.out _ _ (hHeld.trans1 k) (fun hHeld => ?_)
          clear hK K
          try simp only [Act.put, List.setIfInBounds_toArray, List.set_cons_zero, List.set_cons_succ]
          clear k
          refine wpAnyH_ready (rs := [4]) (by kernel_rfl) (by simp) ?_
          refine AllReadyH.cons (o := _) rfl (fun K hK => ?_) ?_
          ·
            go_simp
            refine (Eval_s _ M f HM.out (d i) HX.out _ (HLc.out.chg0 (HCq.out.trans1 hHeld))).mono ?_
            rintro e w5 ⟨rfl, k⟩
            go_wp2_with fail
            refine hK.out _ _ (hHeld.trans1 k) (fun hHeld => ?_)
            clear hK K
            try simp only [Act.put, List.setIfInBounds_toArray, List.set_cons_zero, List.set_cons_succ]
            clear k
            refine wpAnyH_ready (rs := [7]) (by kernel_rfl) (by simp) ?_
            refine AllReadyH.cons (o := _) rfl (fun K hK => ?_) ?_
            ·
              go_simp
              refine (Compare_is _ _ (r256_rl (ev_rl _ _ _ _)) HRY.out c HCC.out _).mono ?_
              rintro e w5 ⟨rfl, k⟩
              go_wp2_with fail
              refine hK.out _ _ (hHeld.trans1 k) (fun hHeld => ?_)
              clear hK K
              try simp only [Act.put, List.setIfInBounds_toArray, List.set_cons_zero, List.set_cons_succ]
              clear k
              refine take_val (v := (.bool (c != 0))) 8 (some 22) rfl (by kernel_rfl) (by kernel_rfl) (by kernel_rfl) (fun _ _ _ h => h) rfl rfl (fun w hSw => ?_) hHeld ?_
              · (go_simp; try with_reducible rfl)
              try simp only [Act.put, List.setIfInBounds_toArray, List.set_cons_zero, List.set_cons_succ]
              refine wpAnyH_done (by kernel_rfl) ?_ _
              go_wp2_with fail
              go_meet
              case rel => exact ⟨_, rfl, by have := HC0.out; rw [← this]; simp, hHeld⟩
            exact AllReadyH.nil
          exact AllReadyH.nil
        exact AllReadyH.nil
      case rest =>
        obtain ⟨q, rfl, hq, k⟩ := hcut
        have C := HCq.out.trans1 k
        have O := HO.out.chg k
        replace Bs := Bs.chg k (by simp)
        have S1 := sh_id Bs
        have HCz4 : Hid (w.heap.size ≤ wc.heap.size) := C.size
        clear k HO HCq HC0 HCC Bq Bs
        cases q
        · have HS2 : Hid (stL f M d y (i + 1) = stL f M d y i) := by show stL f M d y (i + 1) = stL f M d y i; rw [HST.out, if_pos (hq.1 rfl)]
          clear hq HST
          go_wp2_with fail
          go_roundw
          case rel => exact ⟨i + 1, HI.out, by go_num, by rw [HS2.out]; exact O, C⟩
          case measure => exact HMs.out
        · have HS2 : Hid (stL f M d y (i + 1) = stL f M d y i ++ [d i]) := by show stL f M d y (i + 1) = stL f M d y i ++ [d i]; rw [HST.out, if_neg (fun h => by have := hq.2 h; cases this)]
          clear hq HST
          obtain ⟨di, hdi⟩ : ∃ x, d i = x := ⟨_, rfl⟩
          have HDI : Hid (d i = di) := hdi
          rw [hdi] at S1
          clear hdi
          go_wp2_with (first
            | (with_reducible refine bslice_w ?_ 26 3 (.tmp 25) ?_ (.int .i64 di) ?_ #[.int .i64 di] ie (.int .i64 0) Tryz.underlying26 hie hiz 1 his ?_ ?_ (fill_int di) ?_
               · rfl
               · rfl
               · rfl
               · omega
               · omega
               intro gx w2 hgx Bx k2)
            | (with_reducible refine append_oi ?_ (.tmp 23) (.tmp 26) ?_ w.heap.size u5 gx (stL f M d y i) di ?_ ?_ (O.chg k2) Bx ?_ ?_ ?_
               · rfl
               · rfl
               · rfl
               · rfl
               · have := HLn.out; have := HN.out; have := HI.out; omega
               · have := HCz4.out; have := k2.size; omega
               intro v3 w3 O3 k3))
          have hob := ob_own O
          replace C := (C.trans1 k2).trans k3 (fun i hi => Or.inr (hob i hi).1)
          clear k2 k3 Bx hgx O hob
          go_roundw
          case rel => exact ⟨i + 1, HI.out, by go_num, by rw [HS2.out, HDI.out]; exact O3, C⟩
          case measure => exact HMs.out
    · obtain rfl : i = N := by omega
      have hI : ¬ (i : Int) < (i : Int) := by omega
      go_wp2_with fail
      go_ret
      exact ⟨_, rfl, O, C⟩
end Go.Proofs.YtledggdoehnlcaaGreat
