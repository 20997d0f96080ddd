/- shamir.inverseGaps, momentsOf. -/
import Derived.Test.YtoafcaieifjoiaaGreatMgO
set_option linter.unusedVariables false
set_option linter.unusedSimpArgs false
set_option linter.unnecessarySimpa false
namespace Go.Proofs.YtoafcaieifjoiaaGreat
open Go.RowKit N

/-- The product of an identifier's distances from all others. -/
def gpv (d : Nat → Int) (N i : Nat) : Int := pL (fun j => ((dsL (d i) d (d i) N).getD j 0).toNat) (dsL (d i) d (d i) N).length % L
def igv (d : Nat → Int) (N i : Nat) : Int := iv (gpv d N i)
theorem gpv_rl (d : Nat → Int) (N i : Nat) : RL (gpv d N i) := rl_mod _
theorem igv_r (d : Nat → Int) (N i : Nat) : R256 (igv d N i) := r256_rl (pw_rl _ _)
/-- f, the first i places turned into g's. -/
def mq (f g : Nat → Int) (i j : Nat) : Int := if j < i then g j else f j
theorem mq_at (f g : Nat → Int) (i : Nat) : mq f g i i = f i := if_neg (by omega)
theorem mq_step (f g : Nat → Int) (i j : Nat) : upS (mq f g i) i (g i) j = mq f g (i + 1) j := by
  unfold upS mq
  by_cases h : j = i
  · subst h; rw [if_pos rfl, if_pos (by omega)]
  · rw [if_neg h]
    by_cases h2 : j < i
    · rw [if_pos h2, if_pos (by omega)]
    · rw [if_neg h2, if_neg (by omega)]
set_option maxHeartbeats 8000000 in
set_option maxRecDepth 100000 in
theorem inverseGaps_s (u : Value) (N : Nat) (d : Nat → Int) (h0 : 0 < N) (hN : N ≤ 255) (hd : ∀ i, i < N → 1 ≤ d i ∧ d i ≤ 255) (hz : ∀ i, i < N → ¬ LN ∣ (gpv d N i).toNat) (w : World) (hL : Il w u N d) :
    Calls Tryz.prog 106 #[u] w fun e w' => ∃ g, w.heap.size ≤ g ∧ e = .returned (.slice (some ⟨g, 0, none⟩) N N) ∧ Sb w' g N (igv d N) ∧ Chg w w' [] := by
  have HIl : Hid (Il w u N d) := hL
  obtain ⟨p, cp, rfl, hp⟩ := hL.form
  have HP : Hid (∀ i, i < N → ∃ g o, p = some ⟨g, o, none⟩ ∧ g < w.heap.size ∧ w.cell? ⟨g, o + i, none⟩ = some (.int .i64 (d i))) := hp
  have HN : Hid (0 < N ∧ N ≤ 255) := ⟨h0, hN⟩
  have HD : Hid (∀ i, i < N → 1 ≤ d i ∧ d i ≤ 255) := hd
  have HZ : Hid (∀ i, i < N → ¬ LN ∣ (gpv d N i).toNat) := hz
  clear hp hL h0 hN hd hz
  go_enter Tryz.func106, Tryz.ntmps106
  go_wp2_with (refine make_w rfl _ _ rfl N (by have := HN.out; omega) rfl rfl ?_; intro g w1 hg S0 C)
  have HG : Hid (w.heap.size ≤ g) := hg
  have S1 : Sb w1 g N (fun j => if j < 0 then gpv d N j else 0) := S0.congr (fun j _ => (if_neg (by omega)).symm)
  clear S0 hg
  go_loopw [14] (fun t wr => ∃ i : Nat, i ≤ N ∧ t = .int .i64 (i : Int) ∧ Sb wr g N (fun j => if j < i then gpv d N j else 0) ∧ Chg w wr []) (fun t _ => (N - intOf t).toNat)
  case atStart => exact ⟨0, Nat.zero_le _, rfl, S1, C⟩
  case round =>
    clear S1 C
    obtain ⟨i, hi, rfl, S, C⟩ := hrel
    by_cases h : i < N
    · have hI : (i : Int) < (N : Int) := by omega
      have hI0 : (0 : Int) ≤ (i : Int) := by omega
      have e1 : IntKind.i64.wrap ((i : Int) + 1) = (i : Int) + 1 := by have := HN.out; rw [IntKind.wrap_i64]; omega
      have HMs : Hid _ := mN N i h
      have HI : Hid (i < N) := h
      have HPl : Hid (0 ≤ d i ∧ d i < 9223372036854775808) := by have := HD.out i h; show 0 ≤ d i ∧ d i < 9223372036854775808; omega
      have HX : Hid (R256 (d i)) := by have := HD.out i h; show R256 (d i); unfold R256; omega
      obtain ⟨gp, o, rfl, hg, hF⟩ := HP.out i h
      have hF' := cell_chg hF hg C (by simp)
      clear hF hg h hi
      go_wp2_with fail
      refine (place_s (d i) HPl.out wr).mono ?_
      rintro e w2 ⟨rfl, k⟩
      replace C := C.trans1 k
      replace S := S.chg k (by simp)
      clear k
      go_wp2_with fail
      refine (distances_s _ N d HN.out.1 HN.out.2 HD.out (d i) HX.out (d i) w2 (HIl.out.chg C)).mono ?_
      rintro e w3 ⟨r, rfl, O, k⟩
      replace C := C.trans1 k
      replace S := S.chg k (by simp)
      have LO := O.ls (fun j hj => dsL_r (d i) d (d i) N _ (by rw [List.getD_eq_getElem?_getD, List.getElem?_eq_getElem hj]; exact List.getElem_mem hj))
      clear k
      go_wp2_with fail
      refine (Product_s r _ _ (by have := dsL_len (d i) d (d i) N; have := HN.out; omega) w3 LO (gpv d N i) rfl).mono ?_
      rintro e w4 ⟨rfl, k⟩
      replace C := C.trans1 k
      replace S := S.chg k (by simp)
      clear k LO O
      go_wp2_with (refine store_sb rfl (.tmp 27) (.tmp 26) rfl g N i _ (gpv d N i) rfl rfl S HI.out ?_; intro w5 S5 k5)
      replace C := C.new k5 HG.out
      clear k5 S
      go_roundw
      case rel => exact ⟨i + 1, HI.out, by go_num, S5.congr (fun j _ => upS_step (gpv d N) i j), C⟩
      case measure => exact HMs.out
    · obtain rfl : i = N := by omega
      have hI : ¬ (i : Int) < (i : Int) := by omega
      have LS := (S.congr (g' := gpv d i) (fun j hj => if_pos hj)).ls (by have := HN.out; omega) (fun j _ => r256_rl (gpv_rl d i j)) (Nat.le_refl _)
      go_wp2_with fail
      refine (InvertAll_s _ i (nT (gpv d i)) (by have := HN.out; omega) wr LS).mono ?_
      rintro e w2 ⟨hP, k⟩
      have HCz : Hid (w.heap.size ≤ wr.heap.size) := C.size
      replace C := C.trans1 k
      clear k LS S
      rcases hP with ⟨q, hq, hq2, _⟩ | ⟨_, o, ho, rfl, B⟩
      · exact absurd hq2 (HZ.out q hq)
      · have SB : Sb w2 o i (igv d i) := Blk.to B (congrArg List.toArray (rL_congr fun j _ => by unfold ivR sF igv; rw [if_neg (by omega), nT_c _ _ (gpv_rl d i j).1]))
        clear B
        go_wp2_with fail
        go_ret
        exact ⟨o, by have := HCz.out; omega, rfl, SB, C⟩
/-- The parts of the moments, times the places to the power q. -/
def ptk (d y : Nat → Int) (N : Nat) : Nat → Nat → Int
  | 0 => fun j => ml (igv d N j) (y j)
  | q + 1 => fun j => ml (ptk d y N q j) (d j)
def mo (d y : Nat → Int) (N q : Nat) : Int := sL (nT (ptk d y N q)) N % L
theorem ptk_r (d y : Nat → Int) (N : Nat) : ∀ q j, R256 (ptk d y N q j)
  | 0, _ => r256_mod _
  | _ + 1, _ => r256_mod _
set_option maxHeartbeats 16000000 in
set_option maxRecDepth 100000 in
theorem momentsOf_s (v : Value) (N : Nat) (d y : Nat → Int) (h0 : 0 < N) (hN : N ≤ 255) (hd : ∀ i, i < N → 1 ≤ d i ∧ d i ≤ 255) (hz : ∀ i, i < N → ¬ LN ∣ (gpv d N i).toNat) (M : Nat) (hM : M ≤ 255) (w : World) (hL : Hl w v N d y) :
    Calls Tryz.prog 114 #[v, .int .i64 (M : Int)] w fun e w' => ∃ g, w.heap.size ≤ g ∧ e = .returned (.slice (some ⟨g, 0, none⟩) M M) ∧ Sb w' g M (mo d y N) ∧ Chg w w' [] := by
  have hid := idsOf_s v N d y (by omega) w hL
  have HRY : Hid (∀ j, j < N → R256 (y j)) := hL.2
  obtain ⟨p, cp, rfl, hp⟩ := hL.1.form
  have HP : Hid (∀ i, i < N → ∃ g o, p = some ⟨g, o, none⟩ ∧ g < w.heap.size ∧ w.rangeAt g (o + i * 33) (hF d y i)) := hp
  have HN : Hid (0 < N ∧ N ≤ 255) := ⟨h0, hN⟩
  have HM : Hid (M ≤ 255) := hM
  have HD : Hid (∀ i, i < N → 1 ≤ d i ∧ d i ≤ 255) := hd
  have HZ : Hid (∀ i, i < N → ¬ LN ∣ (gpv d N i).toNat) := hz
  clear hp hL h0 hN hd hz hM
  go_enter Tryz.func114, Tryz.ntmps114
  go_wp2_with fail
  refine hid.mono ?_
  rintro e w1 ⟨gi, hgi, rfl, I, k1⟩
  clear hid
  go_wp2_with fail
  refine (inverseGaps_s _ N d HN.out.1 HN.out.2 HD.out HZ.out w1 (I.il (by have := HN.out; omega))).mono ?_
  rintro e w2 ⟨pb, hpb, rfl, S, k2⟩
  have HPB : Hid (w.heap.size ≤ pb) := by have := k1.size; show w.heap.size ≤ pb; omega
  have C : Chg w w2 [] := k1.trans1 k2
  have S1 : Sb w2 pb N (mq (igv d N) (fun j => ml (igv d N j) (y j)) 0) := S.congr (fun j _ => (if_neg (by omega)).symm)
  clear k1 k2 I hgi hpb S HZ
  go_wp2_with fail
  go_loopw [17] (fun t wr => ∃ i : Nat, i ≤ N ∧ t = .int .i64 (i : Int) ∧ Sb wr pb N (mq (igv d N) (fun j => ml (igv d N j) (y j)) i) ∧ Chg w wr []) (fun t _ => (N - intOf t).toNat)
  case atStart => exact ⟨0, Nat.zero_le _, rfl, S1, C⟩
  case round =>
    clear S1 C
    obtain ⟨i, hi, rfl, Sq, C⟩ := hrel
    by_cases h : i < N
    · have hI : (i : Int) < (N : Int) := by omega
      have hI0 : (0 : Int) ≤ (i : Int) := by omega
      have e1 : IntKind.i64.wrap ((i : Int) + 1) = (i : Int) + 1 := by have := HN.out; rw [IntKind.wrap_i64]; omega
      have HMs : Hid _ := mN N i h
      have HI : Hid (i < N) := h
      have HRy : Hid (R256 (y i)) := HRY.out i h
      have HRi : Hid (R256 (igv d N i)) := igv_r d N i
      have HMQ : Hid (mq (igv d N) (fun j => ml (igv d N j) (y j)) i i = igv d N i) := mq_at _ _ i
      obtain ⟨gp, o, rfl, hg, hF⟩ := HP.out i h
      have hF' : wr.rangeAt gp (o + i * 33) (.int .i64 (d i) :: feL (y i)) := rangeAt_chg hF hg C (by simp)
      have HCz : Hid (w.heap.size ≤ wr.heap.size) := C.size
      have HGl : Hid (pb < wr.heap.size) := Sq.lt
      clear hF hg h hi
      go_wp2_with (first
        | (refine load_sh rfl _ rfl gp (o + i * 33) (d i) (y i) rfl hF' ?_)
        | (refine alloc_w rfl 96 rfl (.agg zSh) zeroSh zSh rfl ?_; intro sb w1 hsb B0 k1)
        | (refine store_w B0 rfl 96 _ _ (shC (d i) (y i)) rfl rfl rfl shInfo rfl (shC_one _ _) ?_; intro wq Bs k2))
      replace C := (C.trans1 k1).new k2 (by have := HCz.out; omega)
      replace Sq := (Sq.chg k1 (by simp)).chg k2 (by have := HGl.out; simp; omega)
      have HSG : Hid (¬ sb ∈ [pb]) := by have := HGl.out; show ¬ sb ∈ [pb]; simp; omega
      clear k1 k2 B0 hsb hF'
      refine wp_region_held_drew (S := fun w' => Chg wq w' [pb]) (by kernel_rfl) ((Chg.refl wq _).drew) (fun hHeld => ?_)
      replace Sq : Sb wq.drew pb N (mq (igv d N) (fun j => ml (igv d N j) (y j)) i) := Sq
      replace C := C.drew
      refine tv (v := ?_) 0 (some 22) rfl (by kernel_rfl) (fun _ _ _ h => h) rfl rfl (fun w hSw => ?_) hHeld ?_; rotate_left; (· (go_simp; try with_reducible rfl)); try simp only [Act.put, sA1, sA2, sA3]
      refine tv (v := ?_) 1 (some 23) rfl (by kernel_rfl) (fun _ _ _ h => h) rfl rfl (fun w hSw => ?_) hHeld ?_; rotate_left; (· (go_simp; try with_reducible rfl)); try simp only [Act.put, sA1, sA2, sA3]
      refine tv (v := ?_) 2 (some 24) rfl (by kernel_rfl) (fun _ _ _ h => h) rfl rfl (fun w hSw => ?_) hHeld ?_; rotate_left; (· (go_simp; try with_reducible rfl)); try simp only [Act.put, sA1, sA2, sA3]
      refine tv (v := ?_) 3 (some 25) rfl (by kernel_rfl) (fun _ _ _ h => h) rfl rfl (fun w hSw => ?_) hHeld ?_; rotate_left; (· (go_simp; try with_reducible rfl)); try simp only [Act.put, sA1, sA2, sA3]
      refine tv (v := ?_) 4 (some 26) rfl (by kernel_rfl) (fun _ _ _ h => h) rfl rfl (fun w hSw => ?_) hHeld ?_; rotate_left; (· (go_simp; try with_reducible rfl)); try simp only [Act.put, sA1, sA2, sA3]
      refine tv (v := ?_) 6 (some 28) rfl (by kernel_rfl) (fun _ _ _ h => h) rfl rfl (fun w hSw => ?_) hHeld ?_; rotate_left; (· (go_simp; try with_reducible rfl)); try simp only [Act.put, sA1, sA2, sA3]
      refine tv (v := (.agg (feC (y i)))) 7 (some 29) rfl (by kernel_rfl) (fun _ _ _ h => h) rfl rfl (fun w hSw => ?_) hHeld ?_
      · exact exec_load_m w 24 _ rfl sb 1 rfl (feL (y i)) _ (sh_val (Bs.chg hSw HSG.out)) Tryz.underlying24 rfl feInfo
      try simp only [Act.put, sA1, sA2, sA3]
      refine wpAnyH_ready (rs := [5]) (by kernel_rfl) (by simp) ?_
      refine AllReadyH.cons (o := _) rfl (fun K hK => ?_) ?_
      ·
        rw [if_pos (by rfl)]
        refine wp_load_mid 24 _ rfl pb (i * 32) rfl (feL (igv d N i)) _ (HMQ.out ▸ Sq.range HI.out) Tryz.underlying24 rfl feInfo ?_
        refine hK.out _ _ (hHeld) (fun hHeld => ?_)
        clear hK K
        try simp only [Act.put, sA1, sA2, sA3]
        refine wpAnyH_ready (rs := [8]) (by kernel_rfl) (by simp) ?_
        refine AllReadyH.cons (o := _) rfl (fun K hK => ?_) ?_
        ·
          go_simp
          refine (Mul_o _ _ HRi.out HRy.out _).mono ?_
          rintro e w5 ⟨rfl, k⟩
          replace Sq := Sq.chg k (by simp)
          replace C := C.trans1 k
          go_wp2_with fail
          refine hK.out _ _ (hHeld.trans1 k.wide) (fun hHeld => ?_)
          clear hK K
          try simp only [Act.put, sA1, sA2, sA3]
          clear k
          refine tv (v := ?_) 9 (some 31) rfl (by kernel_rfl) (fun _ _ _ h => h) rfl rfl (fun w hSw => ?_) hHeld ?_; rotate_left; (· (go_simp; try with_reducible rfl)); try simp only [Act.put, sA1, sA2, sA3]
          refine wpAnyH_ready (rs := [10]) (by kernel_rfl) (by simp) ?_
          refine AllReadyH.cons (o := _) rfl (fun K hK => ?_) ?_
          ·
            rw [if_pos (by rfl)]
            refine wp_store_sb _ _ rfl pb N i _ _ rfl rfl Sq HI.out ?_
            intro w6 S6 k6
            refine hK.out _ _ (hHeld.trans1 k6) (fun hHeld => ?_)
            clear hK K
            try simp only [Act.put, sA1, sA2, sA3]
            refine wpAnyH_done (by kernel_rfl) ?_ _
            replace C := C.new k6 HPB.out
            clear Sq k6 hHeld Bs
            go_wp2_with fail
            go_roundw
            case rel => exact ⟨i + 1, HI.out, by go_num, S6.congr (fun j _ => mq_step _ _ i j), C⟩
            case measure => exact HMs.out
          exact AllReadyH.nil
        exact AllReadyH.nil
      exact AllReadyH.nil
    · obtain rfl : N = i := by omega
      have hI : ¬ (N : Int) < (N : Int) := by omega
      have S2 : Sb wr pb N (ptk d y N 0) := Sq.congr (fun j hj => if_pos hj)
      clear Sq h hi
      go_wp2_with (refine make_w rfl _ _ rfl M (by have := HM.out; omega) rfl rfl ?_; intro mb w3 hmb Sm0 k3)
      have HMB : Hid (w.heap.size ≤ mb) := by have := C.size; show w.heap.size ≤ mb; omega
      have HMP : Hid (¬ mb = pb) := by have := S2.lt; show ¬ mb = pb; omega
      have HMG : Hid (¬ mb ∈ [pb]) := by have := HMP.out; show ¬ mb ∈ [pb]; simp; omega
      have HPG : Hid (¬ pb ∈ [mb]) := by have := HMP.out; show ¬ pb ∈ [mb]; simp; omega
      replace C := C.trans1 k3
      replace S2 := S2.chg k3 (by simp)
      have Sm1 : Sb w3 mb M (fun j => if j < 0 then mo d y N j else 0) := Sm0.congr (fun j _ => (if_neg (by omega)).symm)
      clear k3 hmb Sm0 hI
      go_loopw [37] (fun t wr => ∃ q : Nat, q ≤ M ∧ t = .int .i64 (q : Int) ∧ Sb wr pb N (ptk d y N q) ∧ Sb wr mb M (fun j => if j < q then mo d y N j else 0) ∧ Chg w wr []) (fun t _ => (M - intOf t).toNat)
      case atStart => exact ⟨0, Nat.zero_le _, rfl, S2, Sm1, C⟩
      case round =>
        clear S2 Sm1 C
        obtain ⟨q, hq, rfl, S, Sm, C⟩ := hrel
        by_cases h : q < M
        · have hI : (q : Int) < (M : Int) := by omega
          have hI0 : (0 : Int) ≤ (q : Int) := by omega
          have e1 : IntKind.i64.wrap ((q : Int) + 1) = (q : Int) + 1 := by have := HM.out; rw [IntKind.wrap_i64]; omega
          have HMs2 : Hid _ := mN M q h
          have HQ : Hid (q < M) := h
          have LS := S.ls (by have := HN.out; omega) (fun j _ => ptk_r d y N q j) (Nat.le_refl _)
          clear h hq
          go_wp2_with fail
          refine (Sum_s _ N (nT (ptk d y N q)) (by have := HN.out; omega) wr LS (mo d y N q) rfl).mono ?_
          rintro e w4 ⟨rfl, k⟩
          replace C := C.trans1 k
          replace S := S.chg k (by simp)
          replace Sm := Sm.chg k (by simp)
          clear k LS
          go_wp2_with (refine store_sb rfl (.tmp 44) (.tmp 43) rfl mb M q _ (mo d y N q) rfl rfl Sm HQ.out ?_; intro w5 Sm5 k5)
          replace C := C.new k5 HMB.out
          replace S := S.chg k5 HPG.out
          have Sm6 : Sb w5 mb M (fun j => if j < q + 1 then mo d y N j else 0) := Sm5.congr (fun j _ => upS_step (mo d y N) q j)
          have S1 : Sb w5 pb N (mq (ptk d y N q) (ptk d y N (q + 1)) 0) := S.congr (fun j _ => (if_neg (by omega)).symm)
          clear k5 Sm Sm5 S
          go_loopw [47] (fun t wr => ∃ i : Nat, i ≤ N ∧ t = .int .i64 (i : Int) ∧ Sb wr pb N (mq (ptk d y N q) (ptk d y N (q + 1)) i) ∧ Sb wr mb M (fun j => if j < q + 1 then mo d y N j else 0) ∧ Chg w wr []) (fun t _ => (N - intOf t).toNat)
          case atStart => exact ⟨0, Nat.zero_le _, rfl, S1, Sm6, C⟩
          case round =>
            clear S1 Sm6 C
            obtain ⟨i, hi, rfl, Sq, Sm, C⟩ := hrel
            by_cases h : i < N
            · have hK : (i : Int) < (N : Int) := by omega
              have hK0 : (0 : Int) ≤ (i : Int) := by omega
              have e2 : IntKind.i64.wrap ((i : Int) + 1) = (i : Int) + 1 := by have := HN.out; rw [IntKind.wrap_i64]; omega
              have HMs : Hid _ := mN N i h
              have HI : Hid (i < N) := h
              have HPl : Hid (0 ≤ d i ∧ d i < 9223372036854775808) := by have := HD.out i h; show 0 ≤ d i ∧ d i < 9223372036854775808; omega
              have HX : Hid (R256 (d i)) := by have := HD.out i h; show R256 (d i); unfold R256; omega
              have HRi : Hid (R256 (ptk d y N q i)) := ptk_r d y N q i
              have HMQ : Hid (mq (ptk d y N q) (ptk d y N (q + 1)) i i = ptk d y N q i) := mq_at _ _ i
              obtain ⟨gp, o, rfl, hg, hF⟩ := HP.out i h
              have hF' : wr.rangeAt gp (o + i * 33) (.int .i64 (d i) :: feL (y i)) := rangeAt_chg hF hg C (by simp)
              have HCz : Hid (w.heap.size ≤ wr.heap.size) := C.size
              have HGl : Hid (pb < wr.heap.size ∧ mb < wr.heap.size) := ⟨Sq.lt, Sm.lt⟩
              clear hF hg h hi
              go_wp2_with (first
                | (refine load_sh rfl _ rfl gp (o + i * 33) (d i) (y i) rfl hF' ?_)
                | (refine alloc_w rfl 96 rfl (.agg zSh) zeroSh zSh rfl ?_; intro sb w1 hsb B0 k1)
                | (refine store_w B0 rfl 96 _ _ (shC (d i) (y i)) rfl rfl rfl shInfo rfl (shC_one _ _) ?_; intro wq Bs k2))
              replace C := (C.trans1 k1).new k2 (by have := HCz.out; omega)
              replace Sq := (Sq.chg k1 (by simp)).chg k2 (by have := HGl.out; simp; omega)
              replace Sm := (Sm.chg k1 (by simp)).chg k2 (by have := HGl.out; simp; omega)
              have HSG : Hid (¬ sb ∈ [pb]) := by have := HGl.out; show ¬ sb ∈ [pb]; simp; omega
              clear k1 k2 B0 hsb hF'
              refine wp_region_held_drew (S := fun w' => Chg wq w' [pb]) (by kernel_rfl) ((Chg.refl wq _).drew) (fun hHeld => ?_)
              replace Sq : Sb wq.drew pb N (mq (ptk d y N q) (ptk d y N (q + 1)) i) := Sq
              replace C := C.drew
              refine tv (v := ?_) 0 (some 52) rfl (by kernel_rfl) (fun _ _ _ h => h) rfl rfl (fun w hSw => ?_) hHeld ?_; rotate_left; (· (go_simp; try with_reducible rfl)); try simp only [Act.put, sA1, sA2, sA3]
              refine tv (v := ?_) 1 (some 53) rfl (by kernel_rfl) (fun _ _ _ h => h) rfl rfl (fun w hSw => ?_) hHeld ?_; rotate_left; (· (go_simp; try with_reducible rfl)); try simp only [Act.put, sA1, sA2, sA3]
              refine tv (v := ?_) 2 (some 54) rfl (by kernel_rfl) (fun _ _ _ h => h) rfl rfl (fun w hSw => ?_) hHeld ?_; rotate_left; (· (go_simp; try with_reducible rfl)); try simp only [Act.put, sA1, sA2, sA3]
              refine tv (v := ?_) 3 (some 55) rfl (by kernel_rfl) (fun _ _ _ h => h) rfl rfl (fun w hSw => ?_) hHeld ?_; rotate_left; (· (go_simp; try with_reducible rfl)); try simp only [Act.put, sA1, sA2, sA3]
              refine tv (v := ?_) 4 (some 56) rfl (by kernel_rfl) (fun _ _ _ h => h) rfl rfl (fun w hSw => ?_) hHeld ?_; rotate_left; (· (go_simp; try with_reducible rfl)); try simp only [Act.put, sA1, sA2, sA3]
              refine tv (v := ?_) 6 (some 58) rfl (by kernel_rfl) (fun _ _ _ h => h) rfl rfl (fun w hSw => ?_) hHeld ?_; rotate_left; (· (go_simp; try with_reducible rfl)); try simp only [Act.put, sA1, sA2, sA3]
              refine tv (v := (.int .i64 (d i))) 7 (some 59) rfl (by kernel_rfl) (fun _ _ _ h => h) rfl rfl (fun w hSw => ?_) hHeld ?_
              · have hcc := sh_id (Bs.chg hSw HSG.out)
                (go_simp; try with_reducible rfl)
              try simp only [Act.put, sA1, sA2, sA3]
              refine wpAnyH_ready (rs := [5, 8]) (by kernel_rfl) (by simp) ?_
              refine AllReadyH.cons (o := _) rfl (fun K hK => ?_) ?_
              ·
                rw [if_pos (by rfl)]
                refine wp_load_mid 24 _ rfl pb (i * 32) rfl (feL (ptk d y N q i)) _ (HMQ.out ▸ Sq.range HI.out) Tryz.underlying24 rfl feInfo ?_
                refine hK.out _ _ (hHeld) (fun hHeld => ?_)
                clear hK K
                try simp only [Act.put, sA1, sA2, sA3]
                refine wpAnyH_ready (rs := [8]) (by kernel_rfl) (by simp) ?_
                refine AllReadyH.cons (o := _) rfl (fun K hK => ?_) ?_
                ·
                  go_simp
                  refine (place_s (d i) HPl.out _).mono ?_
                  rintro e w5 ⟨rfl, k⟩
                  replace Sq := Sq.chg k (by simp)
                  replace C := C.trans1 k
                  go_wp2_with fail
                  refine hK.out _ _ (hHeld.trans1 k.wide) (fun hHeld => ?_)
                  clear hK K
                  try simp only [Act.put, sA1, sA2, sA3]
                  clear k
                  refine wpAnyH_ready (rs := [9]) (by kernel_rfl) (by simp) ?_
                  refine AllReadyH.cons (o := _) rfl (fun K hK => ?_) ?_
                  ·
                    go_simp
                    refine (Mul_o _ _ HRi.out HX.out _).mono ?_
                    rintro e w5 ⟨rfl, k⟩
                    replace Sq := Sq.chg k (by simp)
                    replace C := C.trans1 k
                    go_wp2_with fail
                    refine hK.out _ _ (hHeld.trans1 k.wide) (fun hHeld => ?_)
                    clear hK K
                    try simp only [Act.put, sA1, sA2, sA3]
                    clear k
                    refine tv (v := ?_) 10 (some 62) rfl (by kernel_rfl) (fun _ _ _ h => h) rfl rfl (fun w hSw => ?_) hHeld ?_; rotate_left; (· (go_simp; try with_reducible rfl)); try simp only [Act.put, sA1, sA2, sA3]
                    refine wpAnyH_ready (rs := [11]) (by kernel_rfl) (by simp) ?_
                    refine AllReadyH.cons (o := _) rfl (fun K hK => ?_) ?_
                    ·
                      rw [if_pos (by rfl)]
                      refine wp_store_sb _ _ rfl pb N i _ _ rfl rfl Sq HI.out ?_
                      intro w6 S6 k6
                      refine hK.out _ _ (hHeld.trans1 k6) (fun hHeld => ?_)
                      clear hK K
                      try simp only [Act.put, sA1, sA2, sA3]
                      refine wpAnyH_done (by kernel_rfl) ?_ _
                      replace C := C.new k6 HPB.out
                      replace Sm := Sm.chg hHeld HMG.out
                      clear Sq k6 hHeld Bs
                      go_wp2_with fail
                      go_roundw
                      case rel => exact ⟨i + 1, HI.out, by go_num, S6.congr (fun j _ => mq_step _ _ i j), Sm, C⟩
                      case measure => exact HMs.out
                    exact AllReadyH.nil
                  exact AllReadyH.nil
                exact AllReadyH.nil
              refine AllReadyH.cons (o := _) rfl (fun K hK => ?_) ?_
              ·
                go_simp
                refine (place_s (d i) HPl.out _).mono ?_
                rintro e w5 ⟨rfl, k⟩
                replace Sq := Sq.chg k (by simp)
                replace C := C.trans1 k
                go_wp2_with fail
                refine hK.out _ _ (hHeld.trans1 k.wide) (fun hHeld => ?_)
                clear hK K
                try simp only [Act.put, sA1, sA2, sA3]
                clear k
                refine wpAnyH_ready (rs := [5]) (by kernel_rfl) (by simp) ?_
                refine AllReadyH.cons (o := _) rfl (fun K hK => ?_) ?_
                ·
                  rw [if_pos (by rfl)]
                  refine wp_load_mid 24 _ rfl pb (i * 32) rfl (feL (ptk d y N q i)) _ (HMQ.out ▸ Sq.range HI.out) Tryz.underlying24 rfl feInfo ?_
                  refine hK.out _ _ (hHeld) (fun hHeld => ?_)
                  clear hK K
                  try simp only [Act.put, sA1, sA2, sA3]
                  refine wpAnyH_ready (rs := [9]) (by kernel_rfl) (by simp) ?_
                  refine AllReadyH.cons (o := _) rfl (fun K hK => ?_) ?_
                  ·
                    go_simp
                    refine (Mul_o _ _ HRi.out HX.out _).mono ?_
                    rintro e w5 ⟨rfl, k⟩
                    replace Sq := Sq.chg k (by simp)
                    replace C := C.trans1 k
                    go_wp2_with fail
                    refine hK.out _ _ (hHeld.trans1 k.wide) (fun hHeld => ?_)
                    clear hK K
                    try simp only [Act.put, sA1, sA2, sA3]
                    clear k
                    refine tv (v := ?_) 10 (some 62) rfl (by kernel_rfl) (fun _ _ _ h => h) rfl rfl (fun w hSw => ?_) hHeld ?_; rotate_left; (· (go_simp; try with_reducible rfl)); try simp only [Act.put, sA1, sA2, sA3]
                    refine wpAnyH_ready (rs := [11]) (by kernel_rfl) (by simp) ?_
                    refine AllReadyH.cons (o := _) rfl (fun K hK => ?_) ?_
                    ·
                      rw [if_pos (by rfl)]
                      refine wp_store_sb _ _ rfl pb N i _ _ rfl rfl Sq HI.out ?_
                      intro w6 S6 k6
                      refine hK.out _ _ (hHeld.trans1 k6) (fun hHeld => ?_)
                      clear hK K
                      try simp only [Act.put, sA1, sA2, sA3]
                      refine wpAnyH_done (by kernel_rfl) ?_ _
                      replace C := C.new k6 HPB.out
                      replace Sm := Sm.chg hHeld HMG.out
                      clear Sq k6 hHeld Bs
                      go_wp2_with fail
                      go_roundw
                      case rel => exact ⟨i + 1, HI.out, by go_num, S6.congr (fun j _ => mq_step _ _ i j), Sm, C⟩
                      case measure => exact HMs.out
                    exact AllReadyH.nil
                  exact AllReadyH.nil
                exact AllReadyH.nil
              exact AllReadyH.nil
            · obtain rfl : N = i := by omega
              have hK : ¬ (N : Int) < (N : Int) := by omega
              have S3 : Sb wr pb N (ptk d y N (q + 1)) := Sq.congr (fun j hj => if_pos hj)
              clear Sq h hi
              go_wp2_with fail
              go_roundw
              case rel => exact ⟨q + 1, HQ.out, by go_num, S3, Sm, C⟩
              case measure => exact HMs2.out
        · obtain rfl : q = M := by omega
          have hI : ¬ (q : Int) < (q : Int) := by omega
          go_wp2_with fail
          go_ret
          exact ⟨mb, HMB.out, rfl, Sm.congr (fun j hj => if_pos hj), C⟩
end Go.Proofs.YtoafcaieifjoiaaGreat
