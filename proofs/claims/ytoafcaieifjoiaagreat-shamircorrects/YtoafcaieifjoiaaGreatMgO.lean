/- Joined: Sh6, Sh7, Sh8. -/
import Derived.Test.YtoafcaieifjoiaaGreatMgY
import Derived.Test.YtoafcaieifjoiaaGreatMgSI
import Derived.Test.YtoafcaieifjoiaaGreatMgZ
/- shamir.throughShares, strays, checkEnough, Recover. -/
set_option linter.unusedVariables false
set_option linter.unusedSimpArgs false
set_option linter.unnecessarySimpa false
namespace Go.Proofs.YtoafcaieifjoiaaGreat
open Go.RowKit N

set_option maxHeartbeats 16000000 in
set_option maxRecDepth 100000 in
theorem throughShares_s (v : Value) (N : Nat) (d y : Nat → Int) (h0 : 0 < N) (hN : N ≤ 255) (hd : ∀ i, i < N → 1 ≤ d i ∧ d i ≤ 255) (hz : ∀ j, j < N → ¬ zv d j = 0) (w : World) (hL : Hl w v N d y) :
    Calls Tryz.prog 77 #[v] w fun e w' => ∃ g, w.heap.size ≤ g ∧ e = .returned (.slice (some ⟨g, 0, none⟩) N N) ∧ Sb w' g N (cc d y N) ∧ Chg w w' [] := by
  have HRy : Hid (∀ j, j < N → R256 (y j)) := hL.2
  obtain ⟨p, cp, rfl, hp⟩ := hL.1.form
  have HP : Hid (∀ i, i < N → ∃ g o, p = some ⟨g, o, none⟩ ∧ g < w.heap.size ∧ w.rangeAt g (o + i * 33) (hF d y i)) := hp
  have HN : Hid (0 < N ∧ N ≤ 255) := ⟨h0, hN⟩
  have HD : Hid (∀ i, i < N → 1 ≤ d i ∧ d i ≤ 255) := hd
  have HZ : Hid (∀ j, j < N → ¬ zv d j = 0) := hz
  clear hp hL h0 hN hd hz
  go_enter Tryz.func77, Tryz.ntmps77
  go_wp2_with (refine make_pb rfl _ _ rfl N (by have := HN.out; omega) rfl rfl ?_; intro pb w1 hpb P0 C)
  have HPB : Hid (w.heap.size ≤ pb) := hpb
  have P1 : Pb w1 pb N (fun j => if j < 0 then d j else 0) (fun j => if j < 0 then y j else 0) := P0.congr (fun j _ => (if_neg (by omega)).symm) (fun j _ => (if_neg (by omega)).symm)
  clear P0 hpb
  go_loopw [13] (fun t wr => ∃ i : Nat, i ≤ N ∧ t = .int .i64 (i : Int) ∧ Pb wr pb N (fun j => if j < i then d j else 0) (fun j => if j < i then y j else 0) ∧ Chg w wr []) (fun t _ => (N - intOf t).toNat)
  case atStart => exact ⟨0, Nat.zero_le _, rfl, P1, C⟩
  case round =>
    clear P1 C
    obtain ⟨i, hi, rfl, P, C⟩ := hrel
    by_cases h : i < N
    · have hI : (i : Int) < (N : Int) := by omega
      have hI0 : (0 : Int) ≤ (i : Int) := by omega
      have e1 : IntKind.i64.wrap ((i : Int) + 1) = (i : Int) + 1 := by have := HN.out; rw [IntKind.wrap_i64]; omega
      have HMs : Hid _ := mN N i h
      have HI : Hid (i < N) := h
      have HPl : Hid (0 ≤ d i ∧ d i < 9223372036854775808) := by have := HD.out i h; show 0 ≤ d i ∧ d i < 9223372036854775808; omega
      obtain ⟨gp, o, rfl, hg, hF⟩ := HP.out i h
      have hF' : wr.rangeAt gp (o + i * 33) (.int .i64 (d i) :: feL (y i)) := rangeAt_chg hF hg C (by simp)
      have HCz : Hid (w.heap.size ≤ wr.heap.size) := C.size
      have HGl : Hid (pb < wr.heap.size) := P.lt
      clear hF hg h hi
      go_wp2_with (first
        | (refine load_sh rfl _ rfl gp (o + i * 33) (d i) (y i) rfl hF' ?_)
        | (refine alloc_w rfl 96 rfl (.agg zSh) zeroSh zSh rfl ?_; intro sb w1 hsb B0 k1)
        | (refine store_w B0 rfl 96 _ _ (shC (d i) (y i)) rfl rfl rfl shInfo rfl (shC_one _ _) ?_; intro wq Bs k2))
      replace C := (C.trans1 k1).new k2 (by have := HCz.out; omega)
      replace P := (P.chg k1 (by simp)).chg k2 (by have := HGl.out; simp; omega)
      have HSG : Hid (¬ sb ∈ [pb]) := by have := HGl.out; show ¬ sb ∈ [pb]; simp; omega
      clear k1 k2 B0 hsb hF'
      refine wp_region_held_drew (S := fun w' => Chg wq w' [pb]) (by kernel_rfl) ((Chg.refl wq _).drew) (fun hHeld => ?_)
      replace P : Pb wq.drew pb N (fun j => if j < i then d j else 0) (fun j => if j < i then y j else 0) := P
      replace C := C.drew
      refine tv (v := ?_) 0 (some 18) rfl (by kernel_rfl) (fun _ _ _ h => h) rfl rfl (fun w hSw => ?_) hHeld ?_; rotate_left; (· (go_simp; try with_reducible rfl)); try simp only [Act.put, sA1, sA2, sA3]
      refine tv (v := ?_) 1 (some 19) rfl (by kernel_rfl) (fun _ _ _ h => h) rfl rfl (fun w hSw => ?_) hHeld ?_; rotate_left; (· (go_simp; try with_reducible rfl)); try simp only [Act.put, sA1, sA2, sA3]
      refine tv (v := ?_) 2 (some 20) rfl (by kernel_rfl) (fun _ _ _ h => h) rfl rfl (fun w hSw => ?_) hHeld ?_; rotate_left; (· (go_simp; try with_reducible rfl)); try simp only [Act.put, sA1, sA2, sA3]
      refine tv (v := (.int .i64 (d i))) 3 (some 21) rfl (by kernel_rfl) (fun _ _ _ h => h) rfl rfl (fun w hSw => ?_) hHeld ?_
      · have hcc := sh_id (Bs.chg hSw HSG.out)
        (go_simp; try with_reducible rfl)
      try simp only [Act.put, sA1, sA2, sA3]
      refine tv (v := ?_) 5 (some 23) rfl (by kernel_rfl) (fun _ _ _ h => h) rfl rfl (fun w hSw => ?_) hHeld ?_; rotate_left; (· (go_simp; try with_reducible rfl)); try simp only [Act.put, sA1, sA2, sA3]
      refine tv (v := (.agg (feC (y i)))) 6 (some 24) rfl (by kernel_rfl) (fun _ _ _ h => h) rfl rfl (fun w hSw => ?_) hHeld ?_
      · exact exec_load_m w 24 _ rfl sb 1 rfl (feL (y i)) _ (sh_val (Bs.chg hSw HSG.out)) Tryz.underlying24 rfl feInfo
      try simp only [Act.put, sA1, sA2, sA3]
      refine wpAnyH_ready (rs := [4]) (by kernel_rfl) (by simp) ?_
      refine AllReadyH.cons (o := _) rfl (fun K hK => ?_) ?_
      ·
        go_simp
        refine (place_s (d i) HPl.out _).mono ?_
        rintro e w5 ⟨rfl, k⟩
        replace P := P.chg k (by simp)
        replace C := C.trans1 k
        go_wp2_with fail
        refine hK.out _ _ (hHeld.trans1 k.wide) (fun hHeld => ?_)
        clear hK K
        try simp only [Act.put, sA1, sA2, sA3]
        clear k
        refine tv (v := (.agg (ptC (d i) (y i)))) 7 (some 25) rfl (by kernel_rfl) (fun _ _ _ h => h) rfl rfl (fun w hSw => ?_) hHeld ?_
        · exact exec_build2 w 82 0 1 (.tmp 22) (.tmp 24) rfl (fe (d i)) (fe (y i)) rfl rfl (ptC (d i) (y i)) (built_pt _ _)
        try simp only [Act.put, sA1, sA2, sA3]
        refine tv (v := ?_) 8 (some 26) rfl (by kernel_rfl) (fun _ _ _ h => h) rfl rfl (fun w hSw => ?_) hHeld ?_; rotate_left; (· (go_simp; try with_reducible rfl)); try simp only [Act.put, sA1, sA2, sA3]
        refine wpAnyH_ready (rs := [9]) (by kernel_rfl) (by simp) ?_
        refine AllReadyH.cons (o := _) rfl (fun K hK => ?_) ?_
        ·
          rw [if_pos (by rfl)]
          refine wp_store_pb _ _ rfl pb N i _ _ (d i) (y i) rfl rfl P HI.out ?_
          intro w6 P6 k6
          refine hK.out _ _ (hHeld.trans1 k6) (fun hHeld => ?_)
          clear hK K
          try simp only [Act.put, sA1, sA2, sA3]
          refine wpAnyH_done (by kernel_rfl) ?_ _
          replace C := C.new k6 HPB.out
          clear P k6 hHeld
          go_wp2_with fail
          go_roundw
          case rel => exact ⟨i + 1, HI.out, by go_num, P6.congr (fun j _ => upS_step d i j) (fun j _ => upS_step y i j), C⟩
          case measure => exact HMs.out
        exact AllReadyH.nil
      exact AllReadyH.nil
    · obtain rfl : i = N := by omega
      have hI : ¬ (i : Int) < (i : Int) := by omega
      have LP := (P.congr (d' := d) (y' := y) (fun j hj => if_pos hj) (fun j hj => if_pos hj)).pl (by have := HN.out; omega) (fun j hj => by have := HD.out j hj; unfold R256; omega) HRy.out
      clear h P
      go_wp2_with fail
      refine (Through_s _ i d y (by have := HN.out; omega) wr LP).mono ?_
      rintro e w5 ⟨h5, k⟩
      have HCz : Hid (w.heap.size ≤ wr.heap.size) := C.size
      replace C := C.trans1 k
      rcases h5 with ⟨hbad, _⟩ | ⟨_, _, ⟨q, hq1, hq2, _⟩, _⟩ | ⟨_, _, _, g, hg, rfl, S⟩
      · exfalso; have := HN.out; omega
      · exact absurd hq2 (HZ.out q hq1)
      · go_wp2_with fail
        go_ret
        exact ⟨g, by have := HCz.out; omega, rfl, S, C⟩
/-! ### Lists of ints of the call's own -/
def oI (l : List Int) : Nat → List Value := fun j => [.int .i64 (l.getD j 0)]
theorem oI_ok (n : Nat) (l : List Int) : Rok 1 n (oI l) := fun i _ => ⟨rfl, fun v hv => by unfold oI at hv; simp at hv; subst hv; rfl⟩
def Oi (w : World) (base : Nat) (v : Value) (l : List Int) : Prop := OwnR w base 3 1 v l.length (oI l)
theorem Oi.nil (w : World) (base : Nat) : Oi w base (.slice none 0 0) [] := OwnR.nil w base _ _ _
theorem Oi.chg {w w' : World} {base : Nat} {v : Value} {l : List Int} (h : Oi w base v l) (hc : Chg w w' []) : Oi w' base v l := OwnR.chg h hc (fun _ _ => by simp)
theorem ob_own {w : World} {base : Nat} {T : TypeId} {s : Nat} {v : Value} {n : Nat} {F : Nat → List Value} (h : OwnR w base T s v n F) : ∀ k ∈ ob v, base ≤ k ∧ k < w.heap.size := by
  intro k hk
  exact World.ownsRow.lt h.1 k (by unfold ob at hk; cases hq : v.ownBlock with
    | none => rw [hq] at hk; simp at hk
    | some x => rw [hq] at hk; simp at hk; rw [hk])
theorem Oi.keep {w w0 w' : World} {base : Nat} {v : Value} {l : List Int} {b : Nat} (h : Oi w base v l) (hc : Chg w w' [b]) (hb : w0.heap.size ≤ b) (h0 : Oi w0 base v l) : Oi w' base v l := OwnR.chg h hc (fun k hk => by have := (ob_own h0 k hk).2; simp; omega)
theorem OwnR.congr {w : World} {base : Nat} {T : TypeId} {s : Nat} {v : Value} {n : Nat} {F G : Nat → List Value} (h : OwnR w base T s v n F) (hF : ∀ j, j < n → F j = G j) : OwnR w base T s v n G := by
  refine ⟨?_, fun i hi => by rw [← hF i hi]; exact h.2 i hi⟩
  rw [← rL_congr hF]
  exact h.1
theorem intRowS : ∃ i, Tryz.prog.info? 3 = some i ∧ i.zero = some (.int .i64 0) ∧ i.size = 1 ∧ i.bytes = 8 := by
  have h : (Tryz.prog.info? 3).map (fun i => (i.zero, i.size, i.bytes)) = some (some (.int .i64 0), 1, 8) := by kernel_rfl
  cases hi : Tryz.prog.info? 3 with
  | none => rw [hi] at h; simp at h
  | some i => rw [hi] at h; simp at h; exact ⟨i, rfl, h.1, h.2.1, h.2.2⟩
theorem fill_int (x : Int) : Instr.fill (fun i => some (i * 1, 1)) ((Array.range (1 * 1)).map ((Value.int .i64 0).cells[· % (Value.int .i64 0).cells.size]!)) [(0, .int .i64 x)] = some #[.int .i64 x] := by kernel_rfl
/-- append(s, x), x an int. -/
theorem append_oi {w : World} {ops : Array Oper} {rest : List Oper} {o : Oper} {a : Act} {Q : Exit → Act → World → Prop} (hgd : o.guard = none) (so xo : Operand)
    (ho : o.op = .call { callee := .builtin .append, args := #[so, xo], argTypes := #[25, 25] })
    (base : Nat) (v : Value) (gx : Nat) (l : List Int) (x : Int) (hs : a.eval so = v) (hxe : a.eval xo = .slice (some ⟨gx, 0, none⟩) 1 1) (hown : Oi w base v l) (hx : Blk w gx #[.int .i64 x] 3) (hl : l.length ≤ 17592186044000) (hbase : base ≤ w.heap.size)
    (h : ∀ v' w', Oi w' base v' (l ++ [x]) → Chg w w' (ob v) → wpList Tryz.prog ops Q rest (a.put o.dst v') w') : wpList Tryz.prog ops Q (o :: rest) a w := by
  obtain ⟨ii, hi, hz, h1, h2⟩ := intRowS
  have hR : Rl w 1 (.slice (some ⟨gx, 0, none⟩) 1 1) 1 (oI [x]) := ⟨oI_ok 1 [x], Or.inr ⟨gx, 0, 1, rfl, Nat.le_refl _, by omega, hx.lt, fun i hi j u hu => by
    obtain rfl : i = 0 := by omega
    have hj : j = 0 := by
      have := (List.getElem?_eq_some_iff.1 hu).1
      simp [oI] at this
      exact this
    subst hj
    simp [oI] at hu
    subst hu
    rw [hx.cell]
    rfl⟩⟩
  refine wpList_append_r hgd so xo 25 ho 3 ii (.int .i64 0) 1 8 Tryz.underlying25 hi hz h1 h2 rfl (by omega) base v _ l.length 1 (oI l) (oI [x]) hs hxe hown hR (by omega) (by omega) (by omega) hbase ?_
  intro g cap w' O k _ _
  refine h _ w' ?_ k
  unfold Oi
  rw [List.length_append]
  refine O.congr fun j hj => ?_
  unfold catR oI
  by_cases h : j < l.length
  · rw [if_pos h]; simp [List.getD_eq_getElem?_getD, List.getElem?_append_left h]
  · rw [if_neg h]; simp [List.getD_eq_getElem?_getD, List.getElem?_append_right (show l.length ≤ j by omega)]
/-- The identifiers whose shares do not lie on the polynomial. -/
def stL (f : Nat → Nat) (M : Nat) (d y : Nat → Int) : Nat → List Int
  | 0 => []
  | k + 1 => if ev f (d k) 0 M = cn (y k) then stL f M d y k else stL f M d y k ++ [d k]
theorem stL_len (f : Nat → Nat) (M : Nat) (d y : Nat → Int) : ∀ k, (stL f M d y k).length ≤ k
  | 0 => Nat.le_refl _
  | k + 1 => by
    have := stL_len f M d y k
    unfold stL
    by_cases h : ev f (d k) 0 M = cn (y k)
    · rw [if_pos h]; omega
    · rw [if_neg h, List.length_append]; simp; omega
theorem cmpI_zero (a b : Int) : cmpI a b = 0 ↔ a = b := by
  unfold cmpI
  by_cases h : a < b
  · rw [if_pos h]; omega
  · rw [if_neg h]
    by_cases h2 : a = b
    · rw [if_pos h2]; omega
    · rw [if_neg h2]; omega
set_option maxHeartbeats 16000000 in
set_option maxRecDepth 100000 in
theorem strays_s (v u : Value) (M : Nat) (f : Nat → Nat) (hM : M ≤ 4611686018427387904) (N : Nat) (d y : Nat → Int) (hN : N ≤ 255) (hd : ∀ i, i < N → 1 ≤ d i ∧ d i ≤ 255) (w : World) (hC : Ls w v M f) (hL : Hl w u N d y) :
    Calls Tryz.prog 78 #[v, u] w fun e w' => ∃ r, e = .returned r ∧ Oi w' w.heap.size r (stL f M d y N) ∧ Chg w w' [] := by
  have HRy : Hid (∀ j, j < N → R256 (y j)) := hL.2
  obtain ⟨p, cp, rfl, hp⟩ := hL.1.form
  have HLc : Hid (Ls w v M f) := hC
  obtain ⟨pc, cv, rfl, _⟩ := hC.form
  have HP : Hid (∀ i, i < N → ∃ g o, p = some ⟨g, o, none⟩ ∧ g < w.heap.size ∧ w.rangeAt g (o + i * 33) (hF d y i)) := hp
  have HN : Hid (N ≤ 255) := hN
  have HM : Hid (M ≤ 4611686018427387904) := hM
  have HD : Hid (∀ i, i < N → 1 ≤ d i ∧ d i ≤ 255) := hd
  have O0 := Oi.nil w w.heap.size
  clear hp hL hN hd hC hM
  obtain ⟨ie, hie, hiz, his, _⟩ := intRowS
  go_enter Tryz.func78, Tryz.ntmps78
  go_wp2_with fail
  go_loopw [5, 10] (fun o t wr => ∃ i : Nat, i ≤ N ∧ t = .int .i64 (i : Int) ∧ Oi wr w.heap.size o (stL f M d y i) ∧ Chg w wr []) (fun _ t _ => (N - intOf t).toNat)
  case atStart => exact ⟨0, Nat.zero_le _, rfl, O0, Chg.refl w []⟩
  case round =>
    clear O0
    obtain ⟨i, hi, rfl, O, C⟩ := hrel
    by_cases h : i < N
    · have hI : (i : Int) < (N : Int) := by omega
      have hI0 : (0 : Int) ≤ (i : Int) := by omega
      have e1 : IntKind.i64.wrap ((i : Int) + 1) = (i : Int) + 1 := by have := HN.out; rw [IntKind.wrap_i64]; omega
      have HMs : Hid _ := mN N i h
      have HI : Hid (i < N) := h
      have HPl : Hid (0 ≤ d i ∧ d i < 9223372036854775808) := by have := HD.out i h; show 0 ≤ d i ∧ d i < 9223372036854775808; omega
      have HX : Hid (R256 (d i)) := by have := HD.out i h; show R256 (d i); unfold R256; omega
      have HRY : Hid (R256 (y i)) := HRy.out i h
      have HLn : Hid ((stL f M d y i).length ≤ i) := stL_len f M d y i
      have HST : Hid (stL f M d y (i + 1) = if ev f (d i) 0 M = cn (y i) then stL f M d y i else stL f M d y i ++ [d i]) := rfl
      have HCE : Hid (cmpI (cn (ev f (d i) 0 M)) (cn (y i)) = 0 ↔ ev f (d i) 0 M = cn (y i)) := by
        have hq : cn (ev f (d i) 0 M) = ev f (d i) 0 M := Int.emod_eq_of_lt (ev_rl f (d i) M 0).1 (by have := (ev_rl f (d i) M 0).2; unfold L; exact this)
        show cmpI (cn (ev f (d i) 0 M)) (cn (y i)) = 0 ↔ ev f (d i) 0 M = cn (y i)
        rw [hq]
        exact cmpI_zero _ _
      obtain ⟨gp, o, rfl, hg, hF⟩ := HP.out i h
      have hF' : wr.rangeAt gp (o + i * 33) (.int .i64 (d i) :: feL (y i)) := rangeAt_chg hF hg C (by simp)
      have HCz : Hid (w.heap.size ≤ wr.heap.size) := C.size
      clear hF hg h hi
      go_upto_region 5 with (first
        | (refine load_sh rfl _ rfl gp (o + i * 33) (d i) (y i) rfl hF' ?_)
        | (refine alloc_w rfl 96 rfl (.agg zSh) zeroSh zSh rfl ?_; intro sb w1 hsb B0 k1)
        | (refine store_w B0 rfl 96 _ _ (shC (d i) (y i)) rfl rfl rfl shInfo rfl (shC_one _ _) ?_; intro wq Bs k2))
      have HSB : Hid (w.heap.size ≤ sb) := by have := HCz.out; show w.heap.size ≤ sb; omega
      replace O := (O.chg k1).keep k2 hsb O
      replace C := (C.trans1 k1).new k2 HSB.out
      have Bq : Hid (Blk wq sb (shC (d i) (y i)) 96) := Bs
      clear k1 k2 B0 hF' hsb
      have HO : Hid (Oi wq w.heap.size u5 (stL f M d y i)) := O
      have HCq : Hid (Chg w wq []) := C
      obtain ⟨c, hc⟩ : ∃ c, cmpI (cn (ev f (d i) 0 M)) (cn (y i)) = c := ⟨_, rfl⟩
      have HC0 : Hid (c = 0 ↔ ev f (d i) 0 M = cn (y i)) := by rw [← hc]; exact HCE
      have HCC : Hid (cmpI (cn (ev f (d i) 0 M)) (cn (y i)) = c) := hc
      clear hc HCE O C
      simp only [Act.put, sA1, sA2, sA3]
      go_cut [22] (fun t wc => ∃ q : Bool, t = .bool q ∧ (q = false ↔ ev f (d i) 0 M = cn (y i)) ∧ Chg wq wc [])
      case first =>
        refine wp_region_held_drew (S := fun w' => Chg wq w' []) (by kernel_rfl) ((Chg.refl wq _).drew) (fun hHeld => ?_)
        refine tv (v := ?_) 0 (some 14) rfl (by kernel_rfl) (fun _ _ _ h => h) rfl rfl (fun w hSw => ?_) hHeld ?_; rotate_left; (· (go_simp; try with_reducible rfl)); try simp only [Act.put, sA1, sA2, sA3]
        refine tv (v := ?_) 1 (some 15) rfl (by kernel_rfl) (fun _ _ _ h => h) rfl rfl (fun w hSw => ?_) hHeld ?_; rotate_left; (· (go_simp; try with_reducible rfl)); try simp only [Act.put, sA1, sA2, sA3]
        refine tv (v := (.int .i64 (d i))) 2 (some 16) rfl (by kernel_rfl) (fun _ _ _ h => h) rfl rfl (fun w hSw => ?_) hHeld ?_
        · have hcc := sh_id (Bq.out.chg hSw (by simp))
          (go_simp; try with_reducible rfl)
        try simp only [Act.put, sA1, sA2, sA3]
        refine tv (v := ?_) 5 (some 19) rfl (by kernel_rfl) (fun _ _ _ h => h) rfl rfl (fun w hSw => ?_) hHeld ?_; rotate_left; (· (go_simp; try with_reducible rfl)); try simp only [Act.put, sA1, sA2, sA3]
        refine tv (v := (.agg (feC (y i)))) 6 (some 20) rfl (by kernel_rfl) (fun _ _ _ h => h) rfl rfl (fun w hSw => ?_) hHeld ?_
        · exact exec_load_m w 24 _ rfl sb 1 rfl (feL (y i)) _ (sh_val (Bq.out.chg hSw (by simp))) Tryz.underlying24 rfl feInfo
        try simp only [Act.put, sA1, sA2, sA3]
        refine wpAnyH_ready (rs := [3]) (by kernel_rfl) (by simp) ?_
        refine AllReadyH.cons (o := _) rfl (fun K hK => ?_) ?_
        ·
          go_simp
          refine (place_s (d i) HPl.out _).mono ?_
          rintro e w5 ⟨rfl, k⟩
          go_wp2_with fail
          refine hK.out _ _ (hHeld.trans1 k) (fun hHeld => ?_)
          clear hK K
          try simp only [Act.put, sA1, sA2, sA3]
          clear k
          refine wpAnyH_ready (rs := [4]) (by kernel_rfl) (by simp) ?_
          refine AllReadyH.cons (o := _) rfl (fun K hK => ?_) ?_
          ·
            go_simp
            refine (Eval_s _ M f HM.out (d i) HX.out _ (HLc.out.chg0 (HCq.out.trans1 hHeld))).mono ?_
            rintro e w5 ⟨rfl, k⟩
            go_wp2_with fail
            refine hK.out _ _ (hHeld.trans1 k) (fun hHeld => ?_)
            clear hK K
            try simp only [Act.put, sA1, sA2, sA3]
            clear k
            refine wpAnyH_ready (rs := [7]) (by kernel_rfl) (by simp) ?_
            refine AllReadyH.cons (o := _) rfl (fun K hK => ?_) ?_
            ·
              go_simp
              refine (Compare_is _ _ (r256_rl (ev_rl _ _ _ _)) HRY.out c HCC.out _).mono ?_
              rintro e w5 ⟨rfl, k⟩
              go_wp2_with fail
              refine hK.out _ _ (hHeld.trans1 k) (fun hHeld => ?_)
              clear hK K
              try simp only [Act.put, sA1, sA2, sA3]
              clear k
              refine tv (v := (.bool (c != 0))) 8 (some 22) rfl (by kernel_rfl) (fun _ _ _ h => h) rfl rfl (fun w hSw => ?_) hHeld ?_
              · (go_simp; try with_reducible rfl)
              try simp only [Act.put, sA1, sA2, sA3]
              refine wpAnyH_done (by kernel_rfl) ?_ _
              go_wp2_with fail
              go_meet
              case rel => exact ⟨_, rfl, by have := HC0.out; rw [← this]; simp, hHeld⟩
            exact AllReadyH.nil
          exact AllReadyH.nil
        exact AllReadyH.nil
      case rest =>
        obtain ⟨q, rfl, hq, k⟩ := hcut
        have C := HCq.out.trans1 k
        have O := HO.out.chg k
        replace Bs := Bs.chg k (by simp)
        have S1 := sh_id Bs
        have HCz4 : Hid (w.heap.size ≤ wc.heap.size) := C.size
        clear k HO HCq HC0 HCC Bq Bs
        cases q
        · have HS2 : Hid (stL f M d y (i + 1) = stL f M d y i) := by show stL f M d y (i + 1) = stL f M d y i; rw [HST.out, if_pos (hq.1 rfl)]
          clear hq HST
          go_wp2_with fail
          go_roundw
          case rel => exact ⟨i + 1, HI.out, by go_num, by rw [HS2.out]; exact O, C⟩
          case measure => exact HMs.out
        · have HS2 : Hid (stL f M d y (i + 1) = stL f M d y i ++ [d i]) := by show stL f M d y (i + 1) = stL f M d y i ++ [d i]; rw [HST.out, if_neg (fun h => by have := hq.2 h; cases this)]
          clear hq HST
          obtain ⟨di, hdi⟩ : ∃ x, d i = x := ⟨_, rfl⟩
          have HDI : Hid (d i = di) := hdi
          rw [hdi] at S1
          clear hdi
          go_wp2_with (first
            | (with_reducible refine bslice_w ?_ 25 3 (.tmp 25) ?_ (.int .i64 di) ?_ #[.int .i64 di] ie (.int .i64 0) Tryz.underlying25 hie hiz 1 his ?_ ?_ (fill_int di) ?_
               · rfl
               · rfl
               · rfl
               · omega
               · omega
               intro gx w2 hgx Bx k2)
            | (with_reducible refine append_oi ?_ (.tmp 23) (.tmp 26) ?_ w.heap.size u5 gx (stL f M d y i) di ?_ ?_ (O.chg k2) Bx ?_ ?_ ?_
               · rfl
               · rfl
               · rfl
               · rfl
               · have := HLn.out; have := HN.out; have := HI.out; omega
               · have := HCz4.out; have := k2.size; omega
               intro v3 w3 O3 k3))
          have hob := ob_own O
          replace C := (C.trans1 k2).trans k3 (fun i hi => Or.inr (hob i hi).1)
          clear k2 k3 Bx hgx O hob
          go_roundw
          case rel => exact ⟨i + 1, HI.out, by go_num, by rw [HS2.out, HDI.out]; exact O3, C⟩
          case measure => exact HMs.out
    · obtain rfl : i = N := by omega
      have hI : ¬ (i : Int) < (i : Int) := by omega
      go_wp2_with fail
      go_ret
      exact ⟨_, rfl, O, C⟩
end Go.Proofs.YtoafcaieifjoiaaGreat

/- shamir.checkEnough, Recover. -/
namespace Go.Proofs.YtoafcaieifjoiaaGreat
open Go.RowKit N

/-- The errors of Recover and Correct. -/
def enR (d : Nat → Int) (N : Nat) (t : Int) : Int := if 1 ≤ t ∧ t ≤ 255 then (if (N : Int) < t then 8 else idR d N) else 7
set_option maxHeartbeats 4000000 in
set_option maxRecDepth 100000 in
theorem checkEnough_s (v : Value) (N : Nat) (d y : Nat → Int) (hN : N ≤ 4611686018427387904) (t : Int) (w : World) (hL : Hl w v N d y) :
    Calls Tryz.prog 76 #[v, .int .i64 t] w fun e w' => e = .returned (.int .i64 (enR d N t)) ∧ Chg w w' [] := by
  have hK := checkShares_s v N d y hN w hL
  obtain ⟨p, cp, rfl, _⟩ := hL.1.form
  clear hL
  by_cases h1 : 1 ≤ t ∧ t ≤ 255
  · have ho := okI_t h1
    by_cases h2 : (N : Int) < t
    · have HE : Hid (enR d N t = 8) := by show enR d N t = 8; unfold enR; rw [if_pos h1, if_pos h2]
      clear h1 hK
      go_enter Tryz.func76, Tryz.ntmps76
      go_wp2_with (go_at_call 81; refine (isThreshold_s _ _).mono ?_; rintro e w' ⟨rfl, rfl⟩; rw [ho])
      go_ret
      rw [HE.out]
      exact ⟨rfl, Chg.refl _ []⟩
    · have HE : Hid (enR d N t = idR d N) := by show enR d N t = idR d N; unfold enR; rw [if_pos h1, if_neg h2]
      clear h1
      go_enter Tryz.func76, Tryz.ntmps76
      go_wp2_with (first
        | (go_at_call 81; refine (isThreshold_s _ _).mono ?_; rintro e w' ⟨rfl, rfl⟩; rw [ho])
        | (go_at_call 71; refine hK.mono ?_; rintro e w1 ⟨rfl, k⟩))
      go_ret
      rw [HE.out]
      exact ⟨rfl, k⟩
  · have ho := okI_f h1
    have HE : Hid (enR d N t = 7) := by show enR d N t = 7; unfold enR; rw [if_neg h1]
    clear h1 hK
    go_enter Tryz.func76, Tryz.ntmps76
    go_wp2_with (go_at_call 81; refine (isThreshold_s _ _).mono ?_; rintro e w' ⟨rfl, rfl⟩; rw [ho])
    go_ret
    rw [HE.out]
    exact ⟨rfl, Chg.refl _ []⟩
/-- The first n of a list of shares. -/
theorem Hl.take {w : World} {p : Option Addr} {N c : Nat} {d y : Nat → Int} (h : Hl w (.slice p N c) N d y) {n : Nat} (h0 : 0 < n) (hn : n ≤ N) : Hl w (.slice p n c) n d y := by
  refine ⟨⟨fun i hi => h.1.1 i (by omega), ?_⟩, fun j hj => h.2 j (by omega)⟩
  rcases h.1.2 with ⟨h1, _⟩ | ⟨g, o, cap, e, h1, h2, h3, h4⟩
  · omega
  · simp only [Value.slice.injEq] at e
    obtain ⟨rfl, _, rfl⟩ := e
    exact Or.inr ⟨g, o, c, rfl, by omega, h2, h3, fun i hi => h4 i (by omega)⟩
/-- What Recover answers. -/
def RcR (d y : Nat → Int) (N : Nat) (t : Int) : Int × Int :=
  if ¬ enR d N t = 0 then (0, enR d N t) else if stL (nT (cc d y t.toNat)) t.toNat d y N = [] then (cc d y t.toNat 0, 0) else (0, 71)
theorem enR_zero {d : Nat → Int} {N : Nat} {t : Int} (h : enR d N t = 0) : 1 ≤ t ∧ t ≤ 255 ∧ t ≤ (N : Int) ∧ idR d N = 0 := by
  unfold enR at h
  by_cases h1 : 1 ≤ t ∧ t ≤ 255
  · rw [if_pos h1] at h
    by_cases h2 : (N : Int) < t
    · rw [if_pos h2] at h; omega
    · rw [if_neg h2] at h; exact ⟨h1.1, h1.2, by omega, h⟩
  · rw [if_neg h1] at h; omega
theorem Oi.form {w : World} {base : Nat} {v : Value} {l : List Int} (h : Oi w base v l) : ∃ p c, v = .slice p l.length c := by
  obtain ⟨p, c, e, _⟩ := OwnR.rl h |>.form
  exact ⟨p, c, e⟩
set_option maxHeartbeats 8000000 in
set_option maxRecDepth 100000 in
theorem Recover_s (v : Value) (N : Nat) (d y : Nat → Int) (hN : N ≤ 4611686018427387904) (t : Int) (hz : ∀ j, enR d N t = 0 → j < N → ¬ zv d j = 0) (w : World) (hL : Hl w v N d y) :
    Calls Tryz.prog 28 #[v, .int .i64 t] w fun e w' => e = .returned (.tuple #[fe (RcR d y N t).1, .int .i64 (RcR d y N t).2]) ∧ Chg w w' [] := by
  have hK := checkEnough_s v N d y hN t
  have HL : Hid (Hl w v N d y) := hL
  obtain ⟨p, cp, rfl, _⟩ := hL.1.form
  have F0 : Blk (w.alloc (.cells z32 24)) w.heap.size z32 24 := Blk.new w _ _
  have C0 : Chg w (w.alloc (.cells z32 24)) [] := (Chg.refl w []).alloc _
  have hK1 := hK _ (hL.chg C0)
  have HZ : Hid (∀ j, enR d N t = 0 → j < N → ¬ zv d j = 0) := hz
  clear hK hL hN hz
  go_enter Tryz.func28, Tryz.ntmps28
  go_wp2_with fail
  refine hK1.mono ?_
  rintro e w1 ⟨rfl, k⟩
  replace C0 := C0.trans1 k
  replace F0 := F0.chg k (by simp)
  clear hK1 k
  have HBz := built_z
  by_cases h0 : enR d N t = 0
  · obtain ⟨q1, q2, q3, q4⟩ := enR_zero h0
    obtain ⟨T, rfl⟩ : ∃ T : Nat, t = (T : Int) := ⟨t.toNat, by omega⟩
    have HT : Hid (0 < T ∧ T ≤ 255 ∧ T ≤ N) := by show 0 < T ∧ T ≤ 255 ∧ T ≤ N; omega
    have hT1 : (T : Int) ≤ (N : Int) := q3
    have hT0 : (0 : Int) ≤ (T : Int) := by omega
    have HN : Hid (N ≤ 255) := idE_len (idR_zero q4).1
    have HD : Hid (∀ i, i < N → 1 ≤ d i ∧ d i ≤ 255) := (idE_zero (idR_zero q4).1).1
    have HZ2 : Hid (∀ j, j < N → ¬ zv d j = 0) := fun j hj => HZ.out j h0 hj
    have HR : Hid (RcR d y N (T : Int) = if stL (nT (cc d y T)) T d y N = [] then (cc d y T 0, 0) else (0, 71)) := by
      show RcR d y N (T : Int) = _
      unfold RcR
      rw [if_neg (by simp [h0]), Int.toNat_natCast]
    have hcap : (T : Int) ≤ (cp : Int) := by
      rcases HL.out.1.2 with ⟨h1, _⟩ | ⟨g, o, cap, e, h1, _⟩
      · have := HT.out; omega
      · simp only [Value.slice.injEq] at e
        obtain ⟨_, _, rfl⟩ := e
        have := HT.out
        omega
    rw [h0]
    clear h0 q1 q2 q3 q4 HZ
    go_wp2_with fail
    refine (throughShares_s _ T d y HT.out.1 HT.out.2.1 (fun i hi => HD.out i (by have := HT.out; omega)) (fun j hj => HZ2.out j (by have := HT.out; omega)) w1 ((HL.out.take HT.out.1 HT.out.2.2).chg C0)).mono ?_
    rintro e w2 ⟨g, hg, rfl, S, k⟩
    replace C0 := C0.trans1 k
    replace F0 := F0.chg k (by simp)
    clear k hg
    have LC := S.ls (by have := HT.out; omega) (fun j _ => cc_r d y T j) (Nat.le_refl _)
    go_wp2_with fail
    refine (strays_s _ _ T (nT (cc d y T)) (by have := HT.out; omega) N d y HN.out HD.out w2 LC (HL.out.chg C0)).mono ?_
    rintro e w3 ⟨r, rfl, O, k⟩
    replace C0 := C0.trans1 k
    replace F0 := F0.chg k (by simp)
    replace S := S.chg k (by simp)
    clear k LC
    obtain ⟨pr, cr, rfl⟩ := O.form
    by_cases hs : stL (nT (cc d y T)) T d y N = []
    · have HRp : Hid (RcR d y N (T : Int) = (cc d y T 0, 0)) := by show RcR d y N (T : Int) = _; rw [HR.out, if_pos hs]
      have hln : (stL (nT (cc d y T)) T d y N).length = 0 := by rw [hs]; rfl
      have hT00 : (0 : Int) < (T : Int) := by have := HT.out; omega
      have hrg : w3.rangeAt g 0 (feL (cc d y T 0)) := by have := S.range HT.out.1; rwa [Nat.zero_mul] at this
      rw [hln]
      clear hs hln S O HR
      go_wp2_with (first
        | (refine load_sc rfl _ rfl g 0 (cc d y T 0) rfl hrg ?_)
        | (refine store_w F0 rfl 24 _ _ (feC (cc d y T 0)) rfl rfl rfl feInfo rfl (feC_one _) ?_; intro w4 F4 k4))
      exact bodyPost_ret (results_cell_tmp Tryz.results28 _ _ w.heap.size 24 (feC (cc d y T 0)) _ _ rfl rfl F4 Tryz.underlying24 rfl feInfo) rfl ⟨(by rw [HRp.out]; rfl), C0.new k4 (Nat.le_refl _)⟩
    · have HRp : Hid (RcR d y N (T : Int) = (0, 71)) := by show RcR d y N (T : Int) = _; rw [HR.out, if_neg hs]
      have hln : (0 : Int) < ((stL (nT (cc d y T)) T d y N).length : Int) := by
        have := List.length_pos_iff.2 hs; omega
      clear hs HR S O
      go_wp2_with (first
        | (with_reducible refine build_0 ?_ 24 ?_ (feC 0) HBz ?_
           · rfl
           · rfl)
        | (refine store_w F0 rfl 24 _ _ (feC 0) rfl rfl rfl feInfo rfl (feC_one _) ?_; intro w4 F4 k4))
      exact bodyPost_ret (results_cell_tmp Tryz.results28 _ _ w.heap.size 24 (feC 0) _ _ rfl rfl F4 Tryz.underlying24 rfl feInfo) rfl ⟨(by rw [HRp.out]; rfl), C0.new k4 (Nat.le_refl _)⟩
  · have HRp : Hid (RcR d y N t = (0, enR d N t)) := by show RcR d y N t = _; unfold RcR; rw [if_pos h0]
    clear HZ
    go_wp2_with (first
      | (with_reducible refine build_0 ?_ 24 ?_ (feC 0) HBz ?_
         · rfl
         · rfl)
      | (refine store_w F0 rfl 24 _ _ (feC 0) rfl rfl rfl feInfo rfl (feC_one _) ?_; intro w4 F4 k4))
    exact bodyPost_ret (results_cell_tmp Tryz.results28 _ _ w.heap.size 24 (feC 0) _ _ rfl rfl F4 Tryz.underlying24 rfl feInfo) rfl ⟨(by rw [HRp.out]; rfl), C0.new k4 (Nat.le_refl _)⟩
end Go.Proofs.YtoafcaieifjoiaaGreat

/- shamir.idsOf, distances, inverseGaps. -/
namespace Go.Proofs.YtoafcaieifjoiaaGreat
open Go.RowKit N

/-! ### Ints in a block -/
def iF (f : Nat → Int) : Nat → List Value := fun j => [.int .i64 (f j)]
theorem iF_ok (N : Nat) (f : Nat → Int) : Rok 1 N (iF f) := fun i _ => ⟨rfl, fun v hv => by unfold iF at hv; simp at hv; subst hv; rfl⟩
def Ib (w : World) (o N : Nat) (f : Nat → Int) : Prop := Blk w o (rL 1 N (iF f)).toArray 3
theorem Ib.chg {w w' : World} {o N : Nat} {f : Nat → Int} {l : List Nat} (h : Ib w o N f) (hc : Chg w w' l) (ho : ¬ o ∈ l) : Ib w' o N f := Blk.chg h hc ho
theorem Ib.congr {w : World} {o N : Nat} {f f' : Nat → Int} (h : Ib w o N f) (hf : ∀ j, j < N → f j = f' j) : Ib w o N f' := Blk.to h (congrArg List.toArray (rL_congr fun j hj => by unfold iF; rw [hf j hj]))
theorem Ib.lt {w : World} {o N : Nat} {f : Nat → Int} (h : Ib w o N f) : o < w.heap.size := Blk.lt h
theorem Ib.il {w : World} {o N : Nat} {f : Nat → Int} (h : Ib w o N f) (hN : N ≤ 9223372036854775807) : Il w (.slice (some ⟨o, 0, none⟩) N N) N f :=
  Or.inr ⟨o, 0, N, rfl, Nat.le_refl _, hN, h.lt, fun i hi => by
    have := Blk.rangeRw h (iF_ok N f) hi 0 (.int .i64 (f i)) rfl
    rw [Nat.mul_one, Nat.add_zero] at this
    rw [Nat.zero_add]
    exact this⟩
theorem ib_set {w : World} {o N : Nat} {f : Nat → Int} (h : Ib w o N f) {i : Nat} (hi : i < N) (x : Int) : Ib (w.setCell ⟨o, i, none⟩ (.int .i64 x)) o N (upS f i x) := by
  have h2 := Blk.setRw h (iF_ok N f) hi (x := [.int .i64 x]) rfl (by simp [Value.oneCell'])
  rw [Nat.mul_one] at h2
  refine Blk.to (c := (rL 1 N (upR (iF f) i [.int .i64 x])).toArray) h2 (congrArg List.toArray (rL_congr fun j _ => ?_))
  unfold upR iF upS
  by_cases h3 : j = i
  · rw [if_pos h3, if_pos h3]
  · rw [if_neg h3, if_neg h3]
theorem store_ib {w : World} {ops : Array Oper} {rest : List Oper} {op : Oper} {a : Act} {Q : Exit → Act → World → Prop} (hgd : op.guard = none) (x y : Operand) (ho : op.op = .store 3 x y) (b N i : Nat) (f : Nat → Int) (X : Int) (hx : a.eval x = .pointer (some ⟨b, i, none⟩)) (hy : a.eval y = .int .i64 X) (hb : Ib w b N f) (hi : i < N)
    (h : ∀ w', Ib w' b N (upS f i X) → Chg w w' [b] → wpList Tryz.prog ops Q rest (a.put op.dst undef) w') : wpList Tryz.prog ops Q (op :: rest) a w := by
  have hc : w.cell? ⟨b, i, none⟩ = some (.int .i64 (f i)) := by
    have := Blk.rangeRw hb (iF_ok N f) hi 0 (.int .i64 (f i)) rfl
    rwa [Nat.mul_one, Nat.add_zero] at this
  have hz : w.frozen? ⟨b, i, none⟩ = false := Blk.frozen hb i
  have hr : (Instr.storeAt 3 (.pointer (some ⟨b, i, none⟩)) (.int .i64 X)).run Tryz.prog w = .ok () (w.setCell ⟨b, i, none⟩ (.int .i64 X)) := by
    obtain ⟨ii, hi1, hi2, hi3, hi4⟩ := intRowS
    simp [go_sem, hc, hz, hi1, hi3]
  refine wpList_plain hgd fun K hK => ?_
  unfold Oper.wp execOp
  simp only [ho, hx, hy, Sem.run_bind, hr, Sem.run_pure, Result.andThen_ok]
  exact hK _ _ (h _ (ib_set hb hi X) ((Chg.refl w [b]).setIn (by simp) i _))
theorem make_ib {w : World} {ops : Array Oper} {rest : List Oper} {op : Oper} {a : Act} {Q : Exit → Act → World → Prop} (hgd : op.guard = none) (x y : Operand) (ho : op.op = .makeSlice 25 x y) (r : Nat) (hr : r ≤ 4398046511104) (hx : a.eval x = .int .i64 (r : Int)) (hy : a.eval y = .int .i64 (r : Int))
    (h : ∀ g w', w.heap.size ≤ g → Ib w' g r (fun _ => 0) → Chg w w' [] → wpList Tryz.prog ops Q rest (a.put op.dst (.slice (some ⟨g, 0, none⟩) r r)) w') : wpList Tryz.prog ops Q (op :: rest) a w := by
  obtain ⟨i, hi, hz, h1, h2⟩ := intRowS
  have hm := run_make (P := Tryz.prog) w 25 3 i (.int .i64 0) Tryz.underlying25 hi hz .i64 .i64 (r : Int) (r : Int) (by omega) (by omega) (by rw [h2]; omega) (by omega)
  rw [h1, Int.toNat_natCast] at hm
  have hB : Ib (w.alloc (.cells (madeCells #[.int .i64 0] (r * 1)) 3)) w.heap.size r (fun _ => 0) := by
    rw [made_r #[.int .i64 0] 1 r rfl]
    exact Blk.new w _ _
  refine wpList_plain hgd fun K hK => ?_
  unfold Oper.wp execOp
  simp only [ho, hx, hy, Sem.run_bind, hm, Sem.run_pure, Result.andThen_ok]
  exact hK _ _ (h _ _ (Nat.le_refl _) hB ((Chg.refl w []).alloc _))
set_option maxHeartbeats 8000000 in
set_option maxRecDepth 100000 in
theorem idsOf_s (v : Value) (N : Nat) (d y : Nat → Int) (hN : N ≤ 1000000) (w : World) (hL : Hl w v N d y) :
    Calls Tryz.prog 72 #[v] w fun e w' => ∃ g, w.heap.size ≤ g ∧ e = .returned (.slice (some ⟨g, 0, none⟩) N N) ∧ Ib w' g N d ∧ Chg w w' [] := by
  obtain ⟨p, cp, rfl, hp⟩ := hL.1.form
  have HP : Hid (∀ i, i < N → ∃ g o, p = some ⟨g, o, none⟩ ∧ g < w.heap.size ∧ w.rangeAt g (o + i * 33) (hF d y i)) := hp
  have HN : Hid (N ≤ 1000000) := hN
  clear hp hL hN
  go_enter Tryz.func72, Tryz.ntmps72
  go_wp2_with (refine make_ib rfl _ _ rfl N (by have := HN.out; omega) rfl rfl ?_; intro g w1 hg I0 C)
  have HG : Hid (w.heap.size ≤ g) := hg
  have I1 : Ib w1 g N (fun j => if j < 0 then d j else 0) := I0.congr (fun j _ => (if_neg (by omega)).symm)
  clear I0 hg
  go_loopw [11] (fun t wr => ∃ i : Nat, i ≤ N ∧ t = .int .i64 (i : Int) ∧ Ib wr g N (fun j => if j < i then d j else 0) ∧ Chg w wr []) (fun t _ => (N - intOf t).toNat)
  case atStart => exact ⟨0, Nat.zero_le _, rfl, I1, C⟩
  case round =>
    clear I1 C
    obtain ⟨i, hi, rfl, I, C⟩ := hrel
    by_cases h : i < N
    · have hI : (i : Int) < (N : Int) := by omega
      have hI0 : (0 : Int) ≤ (i : Int) := by omega
      have e1 : IntKind.i64.wrap ((i : Int) + 1) = (i : Int) + 1 := by have := HN.out; rw [IntKind.wrap_i64]; omega
      have HMs : Hid _ := mN N i h
      have HI : Hid (i < N) := h
      obtain ⟨gp, o, rfl, hg, hF⟩ := HP.out i h
      have hF' : wr.rangeAt gp (o + i * 33) (.int .i64 (d i) :: feL (y i)) := rangeAt_chg hF hg C (by simp)
      have HCz : Hid (w.heap.size ≤ wr.heap.size) := C.size
      have HGl : Hid (g < wr.heap.size) := I.lt
      clear hF hg h hi
      go_wp2_with (first
        | (refine load_sh rfl _ rfl gp (o + i * 33) (d i) (y i) rfl hF' ?_)
        | (refine alloc_w rfl 96 rfl (.agg zSh) zeroSh zSh rfl ?_; intro sb w1 hsb B0 k1)
        | (refine store_w B0 rfl 96 _ _ (shC (d i) (y i)) rfl rfl rfl shInfo rfl (shC_one _ _) ?_; intro wq Bs k2; have S1 := sh_id Bs)
        | (refine store_ib rfl (.tmp 20) (.tmp 19) rfl g N i _ (d i) rfl rfl ((I.chg k1 (by simp)).chg k2 (by have := HGl.out; simp; omega)) HI.out ?_; intro w4 I4 k4))
      replace C := ((C.trans1 k1).new k2 (by have := HCz.out; omega)).new k4 HG.out
      clear k1 k2 B0 hsb hF' I Bs S1 k4
      go_roundw
      case rel => exact ⟨i + 1, HI.out, by go_num, I4.congr (fun j _ => upS_step d i j), C⟩
      case measure => exact HMs.out
    · obtain rfl : i = N := by omega
      have hI : ¬ (i : Int) < (i : Int) := by omega
      go_wp2_with fail
      go_ret
      exact ⟨g, HG.out, rfl, I.congr (fun j hj => if_pos hj), C⟩
/-! ### Lists of scalars of the call's own -/
def oS (l : List Int) : Nat → List Value := fun j => feL (l.getD j 0)
theorem oS_ok (n : Nat) (l : List Int) : Rok 32 n (oS l) := fun i _ => fe_ok _
def Os (w : World) (base : Nat) (v : Value) (l : List Int) : Prop := OwnR w base 24 32 v l.length (oS l)
theorem Os.chg {w w' : World} {base : Nat} {v : Value} {l : List Int} (h : Os w base v l) (hc : Chg w w' []) : Os w' base v l := OwnR.chg h hc (fun _ _ => by simp)
theorem wp_bslice_w {P : Program} {w : World} {op : Oper} {a : Act} {K : Act → World → Prop} {Q : Exit → Act → World → Prop} (t e : TypeId) (x : Operand) (ho : op.op = .buildSlice t 1 #[(0, x)]) (v : Value) (hx : a.eval x = v) (cells : Array Value) (ie : TypeInfo) (z : Value)
    (hu : P.underlying t = some (.slice e)) (hie : P.info? e = some ie) (hz : ie.zero = some z) (s : Nat) (hs : ie.size = s) (h0 : 0 < s) (h1 : s ≤ 1000)
    (hf : Instr.fill (fun i => some (i * s, s)) ((Array.range (1 * s)).map (z.cells[· % z.cells.size]!)) [(0, v)] = some cells)
    (h : ∀ g w', w.heap.size ≤ g → Blk w' g cells e → Chg w w' [] → K (a.put op.dst (.slice (some ⟨g, 0, none⟩) 1 1)) w') : op.wp P a w K Q := by
  subst hs hx
  exact wp_buildSlice t e 1 _ ho cells ie z hu hie hz (by omega) (by omega) (by simpa using hf) (h _ _ (Nat.le_refl _) (Blk.new w _ _) ((Chg.refl w []).alloc _))
theorem wp_append_os {w : World} {o : Oper} {a : Act} {K : Act → World → Prop} {Q : Exit → Act → World → Prop} (so xo : Operand)
    (ho : o.op = .call { callee := .builtin .append, args := #[so, xo], argTypes := #[22, 22] })
    (base : Nat) (v : Value) (gx : Nat) (l : List Int) (x : Int) (hs : a.eval so = v) (hxe : a.eval xo = .slice (some ⟨gx, 0, none⟩) 1 1) (hown : Os w base v l) (hx : Blk w gx (feC x) 24) (hl : l.length ≤ 2000000) (hbase : base ≤ w.heap.size)
    (h : ∀ v' w', Os w' base v' (l ++ [x]) → Chg w w' (ob v) → K (a.put o.dst v') w') : o.wp Tryz.prog a w K Q := by
  obtain ⟨ii, hi, hz, h1, h2⟩ := scRowL
  have hR : Rl w 32 (.slice (some ⟨gx, 0, none⟩) 1 1) 1 (oS [x]) := ⟨oS_ok 1 [x], Or.inr ⟨gx, 0, 1, rfl, Nat.le_refl _, by omega, hx.lt, fun i hi => by
    obtain rfl : i = 0 := by omega
    exact (sb_one hx).range (i := 0) (by omega)⟩⟩
  refine wp_append_r so xo 22 ho 24 ii (.agg z32) 32 32 Tryz.underlying22 hi hz h1 h2 rfl (by omega) base v _ l.length 1 (oS l) (oS [x]) hs hxe hown hR (by omega) (by omega) (by omega) hbase ?_
  intro g cap w' O k _ _
  refine h _ w' ?_ k
  unfold Os
  rw [List.length_append]
  refine O.congr fun j hj => ?_
  unfold catR oS
  by_cases h : j < l.length
  · rw [if_pos h]; simp [List.getD_eq_getElem?_getD, List.getElem?_append_left h]
  · rw [if_neg h]; simp [List.getD_eq_getElem?_getD, List.getElem?_append_right (show l.length ≤ j by omega)]
theorem Os.ls {w : World} {base : Nat} {v : Value} {l : List Int} (h : Os w base v l) (hl : ∀ j, j < l.length → R256 (l.getD j 0)) : Ls w v l.length (fun j => (l.getD j 0).toNat) := by
  obtain ⟨hF, h2⟩ := OwnR.rl h
  refine ⟨fun i hi => by have := hl i hi; unfold R256 at this; show (l.getD i 0).toNat < _; omega, ?_⟩
  rcases h2 with h2 | ⟨g, o, cap, e, h1, h2, h3, h4⟩
  · exact Or.inl h2
  · refine Or.inr ⟨g, o, cap, e, h1, h2, h3, fun i hi => ?_⟩
    have := h4 i hi
    show Fc w g (o + i * 32) (((l.getD i 0).toNat : Nat) : Int)
    rw [Int.toNat_of_nonneg (hl i hi).1]
    exact fc_of this h3
/-- make of an empty list with room. -/
theorem make_os {w : World} {ops : Array Oper} {rest : List Oper} {op : Oper} {a : Act} {Q : Exit → Act → World → Prop} (hgd : op.guard = none) (x y : Operand) (ho : op.op = .makeSlice 22 x y) (r : Nat) (hr : r ≤ 1000000) (h0 : 0 < r) (hx : a.eval x = .int .i64 0) (hy : a.eval y = .int .i64 (r : Int))
    (h : ∀ v w', Os w' w.heap.size v [] → Chg w w' [] → wpList Tryz.prog ops Q rest (a.put op.dst v) w') : wpList Tryz.prog ops Q (op :: rest) a w := by
  obtain ⟨i, hi, hz, h1, h2⟩ := scRowL
  have hm := run_make (P := Tryz.prog) w 22 24 i (.agg z32) Tryz.underlying22 hi hz .i64 .i64 0 (r : Int) (by omega) (by omega) (by rw [h2]; omega) (by omega)
  rw [h1, Int.toNat_natCast] at hm
  refine wpList_plain hgd fun K hK => ?_
  unfold Oper.wp execOp
  simp only [ho, hx, hy, Sem.run_bind, hm, Sem.run_pure, Result.andThen_ok]
  refine hK _ _ (h _ _ ⟨⟨?_, Or.inr ⟨w.heap.size, r, madeCells z32 (r * 32), rfl, Nat.le_refl _, Blk.new w _ _, ?_, ?_, ?_, ?_⟩⟩, oS_ok _ _⟩ ((Chg.refl w []).alloc _))
  · rw [rL_len]
  · simp
  · unfold maxLen; omega
  · simp [madeCells]
  · simp [rL]
/-- The distances of x from the places of all identifiers but one. -/
def dsL (x : Int) (d : Nat → Int) (but : Int) : Nat → List Int
  | 0 => []
  | k + 1 => if d k = but then dsL x d but k else dsL x d but k ++ [sb x (d k)]
theorem dsL_len (x : Int) (d : Nat → Int) (but : Int) : ∀ k, (dsL x d but k).length ≤ k
  | 0 => Nat.le_refl _
  | k + 1 => by
    have := dsL_len x d but k
    unfold dsL
    by_cases h : d k = but
    · rw [if_pos h]; omega
    · rw [if_neg h, List.length_append]; simp; omega
theorem dsL_r (x : Int) (d : Nat → Int) (but : Int) : ∀ k, ∀ v ∈ dsL x d but k, R256 v
  | 0 => fun v hv => by cases hv
  | k + 1 => fun v hv => by
    unfold dsL at hv
    by_cases h : d k = but
    · rw [if_pos h] at hv; exact dsL_r x d but k v hv
    · rw [if_neg h] at hv
      rcases List.mem_append.1 hv with h2 | h2
      · exact dsL_r x d but k v h2
      · simp at h2; subst h2; exact r256_mod _
set_option maxHeartbeats 16000000 in
set_option maxRecDepth 100000 in
theorem distances_s (u : Value) (N : Nat) (d : Nat → Int) (h0 : 0 < N) (hN : N ≤ 255) (hd : ∀ i, i < N → 1 ≤ d i ∧ d i ≤ 255) (x : Int) (rx : R256 x) (but : Int) (w : World) (hL : Il w u N d) :
    Calls Tryz.prog 64 #[fe x, u, .int .i64 but] w fun e w' => ∃ r, e = .returned r ∧ Os w' w.heap.size r (dsL x d but N) ∧ Chg w w' [] := by
  obtain ⟨p, cp, rfl, hp⟩ := hL.form
  have HP : Hid (∀ i, i < N → ∃ g o, p = some ⟨g, o, none⟩ ∧ g < w.heap.size ∧ w.cell? ⟨g, o + i, none⟩ = some (.int .i64 (d i))) := hp
  have HN : Hid (0 < N ∧ N ≤ 255) := ⟨h0, hN⟩
  have HD : Hid (∀ i, i < N → 1 ≤ d i ∧ d i ≤ 255) := hd
  have HRx : Hid (R256 x) := rx
  clear hp hL h0 hN hd rx
  obtain ⟨ie, hie, hiz, his, _⟩ := scRowL
  go_enter Tryz.func64, Tryz.ntmps64
  go_wp2_with (first
    | (refine box_w rfl 24 _ rfl (feC x) rfl ?_; intro xb w1 hxb Bx k1)
    | (refine make_os rfl _ _ rfl N (by have := HN.out; omega) HN.out.1 rfl rfl ?_; intro v2 w2 O0 k2))
  obtain ⟨b1, hb1⟩ : ∃ b, w1.heap.size = b := ⟨_, rfl⟩
  rw [hb1] at O0
  have HB1 : Hid (w.heap.size ≤ b1) := by have := k1.size; show w.heap.size ≤ b1; omega
  have HXB : Hid (xb < b1) := by have := Bx.lt; show xb < b1; omega
  have HW2 : Hid (b1 ≤ w2.heap.size) := by have := k2.size; show b1 ≤ w2.heap.size; omega
  have C : Chg w w2 [] := ((Chg.refl w []).trans1 k1).trans1 k2
  replace Bx := Bx.chg k2 (by simp)
  clear k1 k2 hxb hb1
  have HO0 : Hid (Os w2 b1 v2 (dsL x d but 0)) := O0
  go_loopw [7, 15] (fun o t wr => ∃ i : Nat, i ≤ N ∧ t = .int .i64 (i : Int) ∧ Os wr b1 o (dsL x d but i) ∧ Blk wr xb (feC x) 24 ∧ Chg w wr [] ∧ b1 ≤ wr.heap.size) (fun _ t _ => (N - intOf t).toNat)
  case atStart => exact ⟨0, Nat.zero_le _, rfl, HO0.out, Bx, C, HW2.out⟩
  case round =>
    clear O0 HO0 Bx C HW2
    obtain ⟨i, hi, rfl, O, Bx, C, hws⟩ := hrel
    by_cases h : i < N
    · have hI : (i : Int) < (N : Int) := by omega
      have hI0 : (0 : Int) ≤ (i : Int) := by omega
      have e1 : IntKind.i64.wrap ((i : Int) + 1) = (i : Int) + 1 := by have := HN.out; rw [IntKind.wrap_i64]; omega
      have HMs : Hid _ := mN N i h
      have HI : Hid (i < N) := h
      have HPl : Hid (0 ≤ d i ∧ d i < 9223372036854775808) := by have := HD.out i h; show 0 ≤ d i ∧ d i < 9223372036854775808; omega
      have HX : Hid (R256 (d i)) := by have := HD.out i h; show R256 (d i); unfold R256; omega
      have HLn : Hid ((dsL x d but i).length ≤ i) := dsL_len x d but i
      have HOB : Hid (∀ k ∈ ob u7, w.heap.size ≤ k) := fun k hk => by have := (ob_own O k hk).1; have := HB1.out; omega
      have HXO : Hid (¬ xb ∈ ob u7) := fun hx => by have := (ob_own O xb hx).1; have := HXB.out; omega
      have HCz : Hid (b1 ≤ wr.heap.size) := hws
      obtain ⟨gp, o, rfl, hg, hF⟩ := HP.out i h
      have hF' := cell_chg hF hg C (by simp)
      clear hF hg h hi hws
      by_cases hbt : d i = but
      · have HS2 : Hid (dsL x d but (i + 1) = dsL x d but i) := by show dsL x d but (i + 1) = dsL x d but i; unfold dsL; rw [if_pos hbt]; cases i <;> rfl
        go_wp2_with fail
        go_roundw
        case rel => exact ⟨i + 1, HI.out, by go_num, by rw [HS2.out]; exact O, Bx, C, HCz.out⟩
        case measure => exact HMs.out
      · have HS2 : Hid (dsL x d but (i + 1) = dsL x d but i ++ [sb x (d i)]) := by show dsL x d but (i + 1) = _; conv => lhs; unfold dsL; rw [if_neg hbt]
        go_wp2_with fail
        refine wp_region_held_drew (S := fun w' => Chg wr w' (ob u7)) (by kernel_rfl) ((Chg.refl wr _).drew) (fun hHeld => ?_)
        refine tv (v := ?_) 0 (some 22) rfl (by kernel_rfl) (fun _ _ _ h => h) rfl rfl (fun w hSw => ?_) hHeld ?_; rotate_left; (· (go_simp; try with_reducible rfl)); try simp only [Act.put, sA1, sA2, sA3]
        refine take_load 1 (some 23) (feC x) rfl (by kernel_rfl) (by kernel_rfl) (by kernel_rfl) (fun _ _ _ h => h) rfl rfl 24 _ rfl xb rfl 24 _ (fun w h => Bx.chg h HXO.out) Tryz.underlying24 rfl (by first | exact feInfo | kernel_rfl) hHeld ?_
        try simp only [Act.put, sA1, sA2, sA3]
        refine tv (v := ?_) 2 (some 24) rfl (by kernel_rfl) (fun _ _ _ h => h) rfl rfl (fun w hSw => ?_) hHeld ?_; rotate_left; (· (go_simp; try with_reducible rfl)); try simp only [Act.put, sA1, sA2, sA3]
        refine wpAnyH_ready (rs := [3]) (by kernel_rfl) (by simp) ?_
        refine AllReadyH.cons (o := _) rfl (fun K hK => ?_) ?_
        ·
          go_simp
          refine (place_s (d i) HPl.out _).mono ?_
          rintro e w3 ⟨rfl, k3⟩
          go_wp2_with fail
          refine hK.out _ _ (hHeld.trans1 k3.wide) (fun hHeld => ?_)
          clear hK K
          try simp only [Act.put, sA1, sA2, sA3]
          have C3 : Chg wr w3 [] := (Chg.refl wr []).drew.trans1 k3
          clear k3
          refine wpAnyH_ready (rs := [4]) (by kernel_rfl) (by simp) ?_
          refine AllReadyH.cons (o := _) rfl (fun K hK => ?_) ?_
          ·
            go_simp
            refine (Sub_o x (d i) HRx.out HX.out _).mono ?_
            rintro e w4 ⟨rfl, k4⟩
            go_wp2_with fail
            refine hK.out _ _ (hHeld.trans1 k4.wide) (fun hHeld => ?_)
            clear hK K
            try simp only [Act.put, sA1, sA2, sA3]
            replace C3 := C3.trans1 k4
            clear k4
            refine wpAnyH_ready (rs := [5]) (by kernel_rfl) (by simp) ?_
            refine AllReadyH.cons (o := _) rfl (fun K hK => ?_) ?_
            ·
              rw [if_pos (by rfl)]
              refine wp_bslice_w 22 24 (.tmp 26) rfl (fe (sb x (d i))) rfl (feC (sb x (d i))) ie (.agg z32) Tryz.underlying22 hie hiz 32 his (by omega) (by omega) (fill_sc _) ?_
              intro gx w5 hgx Bg k5
              change K (Act.put _ (some 27) _) _
              refine hK.out _ _ (hHeld.trans1 k5.wide) (fun hHeld => ?_)
              clear hK K
              try simp only [Act.put, sA1, sA2, sA3]
              refine wpAnyH_ready (rs := [6]) (by kernel_rfl) (by simp) ?_
              refine AllReadyH.cons (o := _) rfl (fun K hK => ?_) ?_
              ·
                rw [if_pos (by rfl)]
                refine wp_append_os (.tmp 22) (.tmp 27) rfl b1 u7 gx (dsL x d but i) (sb x (d i)) rfl rfl ((O.chg C3).chg k5) Bg (by have := HLn.out; have := HN.out; have := HI.out; omega) (by have := HCz.out; have := C3.size; have := k5.size; omega) ?_
                intro v7 w7 O7 k7
                change K (Act.put _ (some 28) _) _
                refine hK.out _ _ (hHeld.trans1 k7) (fun hHeld => ?_)
                clear hK K
                try simp only [Act.put, sA1, sA2, sA3]
                refine tv (v := ?_) 7 (some 7) rfl (by kernel_rfl) (fun _ _ _ h => h) rfl rfl (fun w hSw => ?_) hHeld ?_; rotate_left; (· (go_simp; try with_reducible rfl)); try simp only [Act.put, sA1, sA2, sA3]
                refine wpAnyH_done (by kernel_rfl) ?_ _
                have C7 : Chg w w7 [] := ((C.trans1 C3).trans1 k5).trans k7 (fun i hi => Or.inr (HOB.out i hi))
                replace Bx := Bx.chg hHeld HXO.out
                have HWS : Hid (wr.heap.size ≤ w7.heap.size) := hHeld.size
                clear k7 k5 C3 hHeld hgx Bg O C
                go_wp2_with fail
                go_roundw
                case rel => exact ⟨i + 1, HI.out, by go_num, by rw [HS2.out]; exact O7, Bx, C7, by have := HCz.out; have := HWS.out; omega⟩
                case measure => exact HMs.out
              exact AllReadyH.nil
            exact AllReadyH.nil
          exact AllReadyH.nil
        exact AllReadyH.nil
    · obtain rfl : i = N := by omega
      have hI : ¬ (i : Int) < (i : Int) := by omega
      go_wp2_with fail
      go_ret
      exact ⟨_, rfl, ⟨ownsRow_base O.1 HB1.out, O.2⟩, C⟩
end Go.Proofs.YtoafcaieifjoiaaGreat
