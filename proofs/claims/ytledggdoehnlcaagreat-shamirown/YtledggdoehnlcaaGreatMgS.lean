/- Joined: OnM, WtL. -/
import Derived.Test.YtledggdoehnlcaaGreatMgH
import Derived.Test.YtledggdoehnlcaaGreatMgT
/- Weights: one at their own place, 0 at the others, together 1. -/
set_option linter.unusedVariables false
set_option linter.unusedSimpArgs false
set_option linter.unnecessarySimpa false
namespace Go.Proofs.YtledggdoehnlcaaGreat
open Go.RowKit N

/-- The product of x's distances from all places but one. -/
def dpv (x : Int) (d : Nat → Int) (N : Nat) (but : Int) : Int := pL (fun j => ((dsL x d but N).getD j 0).toNat) (dsL x d but N).length % L
theorem dpv_rl (x : Int) (d : Nat → Int) (N : Nat) (but : Int) : RL (dpv x d N but) := rl_mod _
theorem dpv_gpv (d : Nat → Int) (N i : Nat) : dpv (d i) d N (d i) = gpv d N i := rfl
theorem zq_dpv (x : Int) {d : Nat → Int} {N i : Nat} (hi : i < N) (hd : ∀ i j, i < N → j < N → d i = d j → i = j) : haveI := LN_nz; zq LN (dpv x d N (d i)) = Q.pdx (fun j => zq LN x - zq LN (d j)) i N := by
  haveI := LN_nz
  unfold dpv
  rw [zq_L L_LN, zq_pL L_LN, zq_dsL L_LN]
  unfold Q.pdx
  refine Q.pd_congr fun j hj => ?_
  by_cases e : j = i
  · subst e; rw [if_pos rfl, if_pos rfl]
  · rw [if_neg e, if_neg (fun e2 => e (hd j i hj hi e2))]
/-- Lagrange's own way to a weight. -/
theorem lgv_wtv {d : Nat → Int} {N : Nat} (h : idE d N = 0) (x : Int) {i : Nat} (hi : i < N) : ml (dpv x d N (d i)) (igv d N i) = wtv x d N i := by
  haveI := LN_nz
  have e : zq LN (ml (dpv x d N (d i)) (igv d N i)) = zq LN (wtv x d N i) := by
    rw [zq_ml L_LN, zq_dpv x hi (idE_zero h).2, zq_wtv x d hi]
    grind
  have e2 := zq_eq.1 e
  rw [← L_LN, mod_id (wtv_rl x d N i)] at e2
  rw [← e2]
  exact (mod_id (rl_mod _)).symm
theorem wtv_delta {d : Nat → Int} {N : Nat} (h : idE d N = 0) {i k : Nat} (hi : i < N) (hk : k < N) : wtv (d k) d N i = if i = k then 1 else 0 := by
  haveI := LN_nz
  by_cases e : i = k
  · subst e
    rw [if_pos rfl]
    have e1 : zq LN (wtv (d i) d N i) = zq LN 1 := by rw [zq_wtv _ d hi, zq_igv h hi, zq_1]
    have e2 := zq_eq.1 e1
    rw [← L_LN, mod_id (wtv_rl _ d N i), mod_id ⟨by decide, by decide⟩] at e2
    exact e2
  · rw [if_neg e]
    have e1 : zq LN (wtv (d k) d N i) = 0 := by
      rw [zq_wtv _ d hi]
      have e0 : Q.pdx (fun j => zq LN (d k) - zq LN (d j)) i N = 0 := Q.pd_zero (i := k) hk (by rw [if_neg (fun h => e h.symm)]; grind)
      rw [e0]
      grind
    exact (zq_is0 L_LN (wtv_rl _ d N i)).1 e1
/-- The sum of the first k. -/
def asum (v : Nat → Int) : Nat → Int
  | 0 => 0
  | k + 1 => ad (asum v k) (v k)
theorem asum_rl (v : Nat → Int) : ∀ k, RL (asum v k)
  | 0 => rl_z
  | _ + 1 => rl_mod _
theorem zq_asum (v : Nat → Int) : haveI := LN_nz; ∀ k, zq LN (asum v k) = Q.sm (fun i => zq LN (v i)) k
  | 0 => by haveI := LN_nz; exact zq_0
  | k + 1 => by
    haveI := LN_nz
    show zq LN (ad (asum v k) (v k)) = Q.sm (fun i => zq LN (v i)) k + zq LN (v k)
    unfold ad
    rw [zq_L L_LN, zq_add, zq_asum v k]
theorem asum_one {d : Nat → Int} {N : Nat} (h : idE d N = 0) (h0 : 0 < N) (x : Int) : asum (wtv x d N) N = 1 := by
  haveI := LN_nz
  have e1 : ∀ y : Int, ev (fun _ => 1) y 0 1 = 1 := fun y => by
    show (0 * y + 1) % L = 1
    rw [Int.zero_mul]
    decide
  have hw := wsum_ev h x (fun _ => 1) (fun _ => 1) (T := 1) h0 (fun i _ => by rw [e1]; decide)
  rw [e1] at hw
  have e : zq LN (asum (wtv x d N) N) = zq LN 1 := by
    rw [← hw, zq_asum, zq_wsum]
    refine Q.sm_congr fun i _ => ?_
    rw [zq_1]
    grind
  have e2 := zq_eq.1 e
  rw [← L_LN, mod_id (asum_rl _ N), mod_id ⟨by decide, by decide⟩] at e2
  exact e2
end Go.Proofs.YtledggdoehnlcaaGreat

/- slices.Index, Contains of ints; shamir.Weights, Lagrange. -/
set_option linter.unusedVariables false
set_option linter.unusedSimpArgs false
set_option linter.unnecessarySimpa false
namespace Go.Proofs.YtledggdoehnlcaaGreat
open Go.RowKit N

set_option maxHeartbeats 8000000 in
set_option maxRecDepth 100000 in
theorem Index_s (u : Value) (N : Nat) (d : Nat → Int) (v : Int) (hN : N ≤ 4611686018427387904) (w : World) (hL : Il w u N d) :
    Calls Tryz.prog 80 #[u, .int .i64 v] w fun e w' => (∃ z : Int, e = .returned (.int .i64 z) ∧ (0 ≤ z ↔ ∃ i, i < N ∧ d i = v)) ∧ Chg w w' [] := by
  obtain ⟨p, cp, rfl, hp⟩ := hL.form
  have HP : Hid (∀ i, i < N → ∃ g o, p = some ⟨g, o, none⟩ ∧ g < w.heap.size ∧ w.cell? ⟨g, o + i, none⟩ = some (.int .i64 (d i))) := hp
  have HN : Hid (N ≤ 4611686018427387904) := hN
  clear hp hL hN
  go_enter Tryz.func80, Tryz.ntmps80
  go_wp2_with fail
  go_loopw [8] (fun t wr => ∃ i : Nat, i ≤ N ∧ t = .int .i64 (i : Int) ∧ (∀ j, j < i → ¬ d j = v) ∧ Chg w wr []) (fun t _ => (N - intOf t).toNat)
  case atStart => exact ⟨0, Nat.zero_le _, rfl, fun j hj => by omega, Chg.refl w []⟩
  case round =>
    obtain ⟨i, hi, rfl, hno, C⟩ := hrel
    have HNO : Hid (∀ j, j < i → ¬ d j = v) := hno
    clear hno
    by_cases h : i < N
    · have hI : (i : Int) < (N : Int) := by omega
      have hI0 : (0 : Int) ≤ (i : Int) := by omega
      have e1 : IntKind.i64.wrap ((i : Int) + 1) = (i : Int) + 1 := by have := HN.out; rw [IntKind.wrap_i64]; omega
      have HMs : Hid _ := mN N i h
      have HI : Hid (i < N) := h
      obtain ⟨gp, o, rfl, hg, hF⟩ := HP.out i h
      have hF' := cell_chg hF hg C (by simp)
      clear hF hg h hi
      by_cases hv : v = d i
      · have HV : Hid (v = d i) := hv
        have hvb : (v == d i) = true := by simp [hv]
        go_wp2_with fail
        go_ret
        exact ⟨⟨(i : Int), rfl, fun _ => ⟨i, HI.out, HV.out.symm⟩, fun _ => by omega⟩, C⟩
      · have HV : Hid (¬ v = d i) := hv
        have hvb : (v == d i) = false := by simp [hv]
        go_wp2_with fail
        go_roundw
        case rel => exact ⟨i + 1, HI.out, by go_num, fun j hj e => by
          by_cases q : j = i
          · subst q; exact HV.out e.symm
          · exact HNO.out j (by omega) e, C⟩
        case measure => exact HMs.out
    · obtain rfl : N = i := by omega
      have hI : ¬ (N : Int) < (N : Int) := by omega
      go_wp2_with fail
      go_ret
      exact ⟨⟨-1, rfl, fun h => by omega, fun ⟨j, hj, e⟩ => absurd e (HNO.out j hj)⟩, C⟩
set_option maxRecDepth 100000 in
theorem Contains_s (u : Value) (N : Nat) (d : Nat → Int) (v : Int) (hN : N ≤ 4611686018427387904) (w : World) (hL : Il w u N d) :
    Calls Tryz.prog 31 #[u, .int .i64 v] w fun e w' => (∃ b : Bool, e = .returned (.bool b) ∧ (b = true ↔ ∃ i, i < N ∧ d i = v)) ∧ Chg w w' [] := by
  have HK := Index_s u N d v hN w hL
  clear hL hN
  go_enter Tryz.func31, Tryz.ntmps31
  go_wp2_with fail
  refine HK.mono ?_
  rintro e w1 ⟨⟨z, rfl, hz⟩, k⟩
  have HZ : Hid (0 ≤ z ↔ ∃ i, i < N ∧ d i = v) := hz
  clear HK hz
  by_cases h : 0 ≤ z
  · have HT : Hid (∃ i, i < N ∧ d i = v) := HZ.out.1 h
    have hd : decide (0 ≤ z) = true := by simpa using h
    go_wp2_with fail
    go_ret
    exact ⟨⟨true, rfl, fun _ => HT.out, fun _ => rfl⟩, k⟩
  · have HT : Hid (¬ ∃ i, i < N ∧ d i = v) := fun q => h (HZ.out.2 q)
    have hd : decide (0 ≤ z) = false := by simpa using h
    go_wp2_with fail
    go_ret
    exact ⟨⟨false, rfl, nofun, fun q => absurd q HT.out⟩, k⟩
/-- What Weights answers. -/
def WtP (d : Nat → Int) (N : Nat) (w : World) (e : Ending) (w' : World) : Prop :=
  ((¬ idR d N = 0 ∧ e = .returned (.tuple #[.slice none 0 0, .int .i64 (idR d N)])) ∨ (idR d N = 0 ∧ ∃ g, w.heap.size ≤ g ∧ e = .returned (.tuple #[.slice (some ⟨g, 0, none⟩) N N, .int .i64 0]) ∧ Sb w' g N (wtv 0 d N)))
set_option maxHeartbeats 16000000 in
set_option maxRecDepth 100000 in
theorem Weights_s (u : Value) (N : Nat) (d : Nat → Int) (hN : N ≤ 4611686018427387904) (w : World) (hL : Il w u N d) :
    Calls Tryz.prog 6 #[u] w fun e w' => WtP d N w e w' ∧ Chg w w' [] := by
  have hK := checkIDs_s u N d hN w hL
  have HLi : Hid (Il w u N d) := hL
  obtain ⟨p, cp, rfl, hp⟩ := hL.form
  have HP : Hid (∀ i, i < N → ∃ g o, p = some ⟨g, o, none⟩ ∧ g < w.heap.size ∧ w.cell? ⟨g, o + i, none⟩ = some (.int .i64 (d i))) := hp
  obtain ⟨E, hE⟩ : ∃ E, idR d N = E := ⟨_, rfl⟩
  have HE : Hid (idR d N = E) := hE
  rw [hE] at hK
  clear hp hL hN hE
  go_enter Tryz.func6, Tryz.ntmps6
  go_wp2_with fail
  refine hK.mono ?_
  rintro e w1 ⟨rfl, C⟩
  clear hK
  by_cases h : E = 0
  · subst h
    obtain ⟨q1, q2⟩ := idR_zero HE.out
    have HN : Hid (0 < N ∧ N ≤ 255) := ⟨q2, idE_len q1⟩
    have HD : Hid (∀ i, i < N → 1 ≤ d i ∧ d i ≤ 255) := (idE_zero q1).1
    have HDI : Hid (∀ i j, i < N → j < N → d i = d j → i = j) := (idE_zero q1).2
    have HZ : Hid (∀ i, i < N → ¬ LN ∣ (gpv d N i).toNat) := fun i hi => gpv_ne q1 hi
    clear q1 q2
    go_wp2_with (refine gl_build (by rfl) 24 #[] rfl (feC 0) (by kernel_rfl) ?_)
    refine (weightsAt_s _ N d HN.out.1 HN.out.2 HD.out HDI.out HZ.out 0 r256_c0 _ (HLi.out.chg C)).mono ?_
    rintro e w2 ⟨mb, hmb, rfl, M, k⟩
    replace C := C.trans1 k
    clear k hmb
    go_wp2_with (refine make_w rfl _ _ rfl N (by have := HN.out; omega) rfl rfl ?_; intro g w3 hg S0 k3)
    have HG : Hid (w.heap.size ≤ g) := by have := C.size; show w.heap.size ≤ g; omega
    have HGM : Hid (¬ mb ∈ [g]) := by have := M.lt; show ¬ mb ∈ [g]; simp; omega
    replace C := C.trans1 k3
    replace M := M.chg k3 (by simp)
    have S1 : Sb w3 g N (fun j => if j < 0 then wtv 0 d N j else 0) := S0.congr (fun j _ => (if_neg (by omega)).symm)
    clear k3 S0 hg
    go_loopw [22] (fun t wr => ∃ i : Nat, i ≤ N ∧ t = .int .i64 (i : Int) ∧ Sb wr g N (fun j => if j < i then wtv 0 d N j else 0) ∧ Mp wr mb N d (wtv 0 d N) ∧ Chg w wr []) (fun t _ => (N - intOf t).toNat)
    case atStart => exact ⟨0, Nat.zero_le _, rfl, S1, M, C⟩
    case round =>
      clear S1 M C
      obtain ⟨i, hi, rfl, S, M, C⟩ := hrel
      by_cases h : i < N
      · have hI : (i : Int) < (N : Int) := by omega
        have hI0 : (0 : Int) ≤ (i : Int) := by omega
        have e1 : IntKind.i64.wrap ((i : Int) + 1) = (i : Int) + 1 := by have := HN.out; rw [IntKind.wrap_i64]; omega
        have HMs : Hid _ := mN N i h
        have HI : Hid (i < N) := h
        obtain ⟨gp, o, rfl, hg, hF⟩ := HP.out i h
        have hF' := cell_chg hF hg C (by simp)
        clear hF hg h hi
        go_wp2_with (first
          | (with_reducible refine look_m ?_ (.tmp 29) (.tmp 30) ?_ mb N i d (wtv 0 d N) ?_ ?_ M HDI.out HI.out ?_
             · rfl
             · rfl
             · rfl
             · rfl)
          | (refine store_sb rfl (.tmp 32) (.tmp 31) rfl g N i _ (wtv 0 d N i) rfl rfl S HI.out ?_; intro w5 S5 k5))
        replace C := C.new k5 HG.out
        replace M := M.chg k5 HGM.out
        clear k5 S
        go_roundw
        case rel => exact ⟨i + 1, HI.out, by go_num, S5.congr (fun j _ => upS_step (wtv 0 d N) i j), M, C⟩
        case measure => exact HMs.out
      · obtain rfl : N = i := by omega
        have hI : ¬ (N : Int) < (N : Int) := by omega
        go_wp2_with fail
        go_ret2
        exact ⟨Or.inr ⟨HE.out, g, HG.out, rfl, S.congr (fun j hj => if_pos hj)⟩, C⟩
  · have HH : Hid (¬ E = 0) := h
    go_wp2_with fail
    go_ret2
    exact ⟨Or.inl ⟨fun q => HH.out (HE.out.symm.trans q), by rw [HE.out]; rfl⟩, C⟩
/-- What Lagrange answers. -/
def LgP (x : Int) (d : Nat → Int) (N : Nat) (id : Int) (e : Ending) : Prop :=
  (∃ V E, e = .returned (.tuple #[fe V, .int .i64 E]) ∧ (¬ idR d N = 0 → V = 0 ∧ E = idR d N) ∧ (idR d N = 0 → (¬ ∃ i, i < N ∧ d i = id) → V = 0 ∧ E = 92) ∧ (∀ i, i < N → idR d N = 0 → d i = id → V = wtv x d N i ∧ E = 0))
set_option maxHeartbeats 16000000 in
set_option maxRecDepth 100000 in
theorem Lagrange_s (u : Value) (N : Nat) (d : Nat → Int) (hN : N ≤ 4611686018427387904) (id x : Int) (rx : R256 x) (w : World) (hL : Il w u N d) :
    Calls Tryz.prog 12 #[u, .int .i64 id, fe x] w fun e w' => LgP x d N id e ∧ Chg w w' [] := by
  have hK := checkIDs_s u N d hN
  have hCt := Contains_s u N d id hN
  have HLi : Hid (Il w u N d) := hL
  have HRx : Hid (R256 x) := rx
  obtain ⟨p, cp, rfl, _⟩ := hL.form
  have HK : Hid (∀ W, Il W (.slice p N cp) N d → Calls Tryz.prog 22 #[.slice p N cp] W fun e w' => e = .returned (.int .i64 (idR d N)) ∧ Chg W w' []) := hK
  have HCt : Hid (∀ W, Il W (.slice p N cp) N d → Calls Tryz.prog 31 #[.slice p N cp, .int .i64 id] W fun e w' => (∃ b : Bool, e = .returned (.bool b) ∧ (b = true ↔ ∃ i, i < N ∧ d i = id)) ∧ Chg W w' []) := hCt
  obtain ⟨E, hE⟩ : ∃ E, idR d N = E := ⟨_, rfl⟩
  have HE : Hid (idR d N = E) := hE
  rw [hE] at HK
  clear hL hN hE rx hK hCt
  go_enter Tryz.func12, Tryz.ntmps12
  go_wp2_with (first
    | (with_reducible refine alloc_w rfl 24 rfl (.agg z32) zeroSc z32 rfl ?_; intro rb w2 hrb Br k2)
    | (refine box_w rfl 24 _ rfl (feC x) rfl ?_; intro xb w1 hxb Bx k1))
  have C : Chg w w2 [] := k1.trans1 k2
  have HRB : Hid (w.heap.size ≤ rb) := by have := k1.size; show w.heap.size ≤ rb; omega
  have HXR : Hid (¬ xb ∈ [rb]) := by have := Bx.lt; show ¬ xb ∈ [rb]; simp; omega
  replace Bx := Bx.chg k2 (by simp)
  clear k1 k2 hxb hrb
  refine (HK.out _ (HLi.out.chg C)).mono ?_
  rintro e w3 ⟨rfl, k⟩
  replace C := C.trans1 k
  replace Bx := Bx.chg k (by simp)
  replace Br := Br.chg k (by simp)
  clear k
  by_cases h : E = 0
  · subst h
    have HZ0 : Hid (idR d N = 0) := HE.out
    go_wp2_with fail
    refine (HCt.out _ (HLi.out.chg C)).mono ?_
    rintro e w4 ⟨⟨b, rfl, hb⟩, k⟩
    have HBt : Hid (b = true ↔ ∃ i, i < N ∧ d i = id) := hb
    replace C := C.trans1 k
    replace Bx := Bx.chg k (by simp)
    replace Br := Br.chg k (by simp)
    clear k hb HCt HK
    cases b
    · have HNo : Hid (¬ ∃ i, i < N ∧ d i = id) := fun q => by have := HBt.out.2 q; cases this
      clear HBt
      go_wp2_with (first
        | (refine gl_build (by rfl) 24 #[] rfl (feC 0) (by kernel_rfl) ?_)
        | (refine store_w Br rfl 24 _ _ (feC 0) rfl rfl rfl feInfo rfl (feC_one _) ?_; intro w7 B7 k7))
      exact bodyPost_ret (results_cell_tmp Tryz.results12 _ _ rb 24 (feC 0) _ _ rfl rfl B7 Tryz.underlying24 rfl feInfo) rfl ⟨⟨0, 92, rfl, fun h => absurd HZ0.out h, fun _ _ => ⟨rfl, rfl⟩, fun i hi _ e => absurd ⟨i, hi, e⟩ HNo.out⟩, C.new k7 HRB.out⟩
    · obtain ⟨i, hi, rfl⟩ := HBt.out.1 rfl
      obtain ⟨q1, q2⟩ := idR_zero HE.out
      have HN : Hid (0 < N ∧ N ≤ 255) := ⟨q2, idE_len q1⟩
      have HD : Hid (∀ i, i < N → 1 ≤ d i ∧ d i ≤ 255) := (idE_zero q1).1
      have HDI : Hid (∀ i j, i < N → j < N → d i = d j → i = j) := (idE_zero q1).2
      have HI : Hid (i < N) := hi
      have HLG : Hid (ml (dpv x d N (d i)) (igv d N i) = wtv x d N i) := lgv_wtv q1 x hi
      have HPl : Hid (0 ≤ d i ∧ d i < 9223372036854775808) := by have := HD.out i hi; show 0 ≤ d i ∧ d i < 9223372036854775808; omega
      have HX : Hid (R256 (d i)) := by have := HD.out i hi; show R256 (d i); unfold R256; omega
      have HEq : Hid (eqn (cn (gpv d N i)) 0 = false) := by
        have hne : ¬ gpv d N i = 0 := fun e => gpv_ne q1 hi (by rw [e]; exact Nat.dvd_zero _)
        show eqn (cn (gpv d N i)) 0 = false
        have hq : cn (gpv d N i) = gpv d N i := mod_id (gpv_rl d N i)
        rw [hq, eqn_eq (gpv_rl d N i) rl_z, decide_eq_false hne]
      clear q1 q2 hi HBt
      go_wp2_with fail
      refine (place_s (d i) HPl.out _).mono ?_
      rintro e w5 ⟨rfl, k⟩
      replace C := C.trans1 k
      replace Bx := Bx.chg k (by simp)
      replace Br := Br.chg k (by simp)
      clear k
      go_wp2_with fail
      refine (distances_s _ N d HN.out.1 HN.out.2 HD.out (d i) HX.out (d i) _ (HLi.out.chg C)).mono ?_
      rintro e w6 ⟨r, rfl, O, k⟩
      have LO := O.ls (fun j hj => dsL_r (d i) d (d i) N _ (by rw [List.getD_eq_getElem?_getD, List.getElem?_eq_getElem hj]; exact List.getElem_mem hj))
      replace C := C.trans1 k
      replace Bx := Bx.chg k (by simp)
      replace Br := Br.chg k (by simp)
      clear k O
      go_wp2_with fail
      refine (Product_s r _ _ (by have := dsL_len (d i) d (d i) N; have := HN.out; omega) w6 LO (gpv d N i) rfl).mono ?_
      rintro e w7 ⟨rfl, k⟩
      replace C := C.trans1 k
      replace Bx := Bx.chg k (by simp)
      replace Br := Br.chg k (by simp)
      clear k LO
      go_wp2_with fail
      refine (Invert_o _ (r256_rl (gpv_rl d N i)) HEq.out _).mono ?_
      rintro e w8 ⟨rfl, k⟩
      replace C := C.trans1 k
      replace Bx := Bx.chg k (by simp)
      replace Br := Br.chg k (by simp)
      clear k
      go_upto_region 7 with (first
        | (with_reducible refine alloc_w rfl 24 rfl (.agg z32) zeroSc z32 rfl ?_; intro vb w9 hvb Bv0 k9)
        | (refine store_w Bv0 rfl 24 _ _ (feC (igv d N i)) rfl rfl rfl feInfo rfl (feC_one _) ?_; intro wr Bv k10))
      have HVB : Hid (w.heap.size ≤ vb) := by have := C.size; show w.heap.size ≤ vb; omega
      have HVR : Hid (¬ vb ∈ [rb]) := by have := Br.lt; show ¬ vb ∈ [rb]; simp; omega
      have HRV : Hid (¬ rb ∈ [vb]) := by have := Br.lt; show ¬ rb ∈ [vb]; simp; omega
      have HXV : Hid (¬ xb ∈ [vb]) := by have := Bx.lt; show ¬ xb ∈ [vb]; simp; omega
      replace C := (C.trans1 k9).new k10 HVB.out
      replace Bx := (Bx.chg k9 (by simp)).chg k10 HXV.out
      replace Br := (Br.chg k9 (by simp)).chg k10 HRV.out
      clear k9 k10 Bv0 hvb
      refine wp_region_held_drew (S := fun w' => Chg wr w' [rb]) (by kernel_rfl) ((Chg.refl wr _).drew) (fun hHeld => ?_)
      replace Br : Blk wr.drew rb z32 24 := Br
      refine take_load 0 (some 32) (feC x) rfl (by kernel_rfl) (by kernel_rfl) (by kernel_rfl) (fun _ _ _ h => h) rfl rfl 24 _ rfl xb rfl 24 _ (fun w h => Bx.chg h HXR.out) Tryz.underlying24 rfl (by first | exact feInfo | kernel_rfl) hHeld ?_
      try simp only [Act.put, List.setIfInBounds_toArray, List.set_cons_zero, List.set_cons_succ]
      refine take_val (v := ?_) 1 (some 33) rfl (by kernel_rfl) (by kernel_rfl) (by kernel_rfl) (fun _ _ _ h => h) rfl rfl (fun w hSw => ?_) hHeld ?_
      rotate_left
      · (go_simp; try with_reducible rfl)
      try simp only [Act.put, List.setIfInBounds_toArray, List.set_cons_zero, List.set_cons_succ]
      refine take_val (v := ?_) 2 (some 34) rfl (by kernel_rfl) (by kernel_rfl) (by kernel_rfl) (fun _ _ _ h => h) rfl rfl (fun w hSw => ?_) hHeld ?_
      rotate_left
      · (go_simp; try with_reducible rfl)
      try simp only [Act.put, List.setIfInBounds_toArray, List.set_cons_zero, List.set_cons_succ]
      refine take_load 5 (some 37) (feC (igv d N i)) rfl (by kernel_rfl) (by kernel_rfl) (by kernel_rfl) (fun _ _ _ h => h) rfl rfl 24 _ rfl vb rfl 24 _ (fun w h => Bv.chg h HVR.out) Tryz.underlying24 rfl (by first | exact feInfo | kernel_rfl) hHeld ?_
      try simp only [Act.put, List.setIfInBounds_toArray, List.set_cons_zero, List.set_cons_succ]
      refine take_val (v := ?_) 7 (some 39) rfl (by kernel_rfl) (by kernel_rfl) (by kernel_rfl) (fun _ _ _ h => h) rfl rfl (fun w hSw => ?_) hHeld ?_
      rotate_left
      · (go_simp; try with_reducible rfl)
      try simp only [Act.put, List.setIfInBounds_toArray, List.set_cons_zero, List.set_cons_succ]
      refine wpAnyH_ready (rs := [3]) (by kernel_rfl) (by simp) ?_
      refine AllReadyH.cons (o := _) rfl (fun K hK => ?_) ?_
      ·
        go_simp
        refine (distances_s _ N d HN.out.1 HN.out.2 HD.out x HRx.out (d i) _ (HLi.out.chg (C.drew))).mono ?_
        rintro e w5 ⟨r, rfl, O, k⟩
        have LO := O.ls (fun j hj => dsL_r x d (d i) N _ (by rw [List.getD_eq_getElem?_getD, List.getElem?_eq_getElem hj]; exact List.getElem_mem hj))
        go_wp2_with fail
        refine hK.out _ _ (hHeld.trans1 k.wide) (fun hHeld => ?_)
        clear hK K
        try simp only [Act.put, List.setIfInBounds_toArray, List.set_cons_zero, List.set_cons_succ]
        replace Br := Br.chg k (by simp)
        clear k O
        refine wpAnyH_ready (rs := [4]) (by kernel_rfl) (by simp) ?_
        refine AllReadyH.cons (o := _) rfl (fun K hK => ?_) ?_
        ·
          go_simp
          refine (Product_s r _ _ (by have := dsL_len x d (d i) N; have := HN.out; omega) _ LO (dpv x d N (d i)) rfl).mono ?_
          rintro e w6 ⟨rfl, k⟩
          go_wp2_with fail
          refine hK.out _ _ (hHeld.trans1 k.wide) (fun hHeld => ?_)
          clear hK K
          try simp only [Act.put, List.setIfInBounds_toArray, List.set_cons_zero, List.set_cons_succ]
          replace Br := Br.chg k (by simp)
          clear k LO
          refine wpAnyH_ready (rs := [6]) (by kernel_rfl) (by simp) ?_
          refine AllReadyH.cons (o := _) rfl (fun K hK => ?_) ?_
          ·
            go_simp
            refine (Mul_o _ _ (r256_rl (dpv_rl x d N (d i))) (igv_r d N i) _).mono ?_
            rintro e w7 ⟨rfl, k⟩
            go_wp2_with fail
            refine hK.out _ _ (hHeld.trans1 k.wide) (fun hHeld => ?_)
            clear hK K
            try simp only [Act.put, List.setIfInBounds_toArray, List.set_cons_zero, List.set_cons_succ]
            replace Br := Br.chg k (by simp)
            clear k
            rw [HLG.out]
            refine wpAnyH_ready (rs := [8]) (by kernel_rfl) (by simp) ?_
            refine AllReadyH.cons (o := _) rfl (fun K hK => ?_) ?_
            ·
              rw [if_pos (by rfl)]
              refine wp_store_w Br 24 _ _ (feC (wtv x d N i)) rfl rfl rfl feInfo rfl (feC_one _) ?_
              intro w8 B8 k8
              refine hK.out _ _ (hHeld.trans1 k8) (fun hHeld => ?_)
              clear hK K
              try simp only [Act.put, List.setIfInBounds_toArray, List.set_cons_zero, List.set_cons_succ]
              refine take_val (v := ?_) 9 (some 7) rfl (by kernel_rfl) (by kernel_rfl) (by kernel_rfl) (fun _ _ _ h => h) rfl rfl (fun w hSw => ?_) hHeld ?_
              rotate_left
              · (go_simp; try with_reducible rfl)
              try simp only [Act.put, List.setIfInBounds_toArray, List.set_cons_zero, List.set_cons_succ]
              refine wpAnyH_done (by kernel_rfl) ?_ _
              replace C := C.new hHeld HRB.out
              clear Br k8 hHeld
              go_wp2_with fail
              exact bodyPost_ret (results_cell_tmp Tryz.results12 _ _ rb 24 (feC (wtv x d N i)) _ _ rfl rfl B8 Tryz.underlying24 rfl feInfo) rfl ⟨⟨wtv x d N i, 0, rfl, fun h => absurd HZ0.out h, fun _ h => absurd ⟨i, HI.out, rfl⟩ h, fun j hj _ e => by obtain rfl := HDI.out j i hj HI.out e; exact ⟨rfl, rfl⟩⟩, C⟩
            exact AllReadyH.nil
          exact AllReadyH.nil
        exact AllReadyH.nil
      exact AllReadyH.nil
  · have HH : Hid (¬ E = 0) := h
    go_wp2_with (first
      | (refine gl_build (by rfl) 24 #[] rfl (feC 0) (by kernel_rfl) ?_)
      | (refine store_w Br rfl 24 _ _ (feC 0) rfl rfl rfl feInfo rfl (feC_one _) ?_; intro w7 B7 k7))
    exact bodyPost_ret (results_cell_tmp Tryz.results12 _ _ rb 24 (feC 0) _ _ rfl rfl B7 Tryz.underlying24 rfl feInfo) rfl ⟨⟨0, E, rfl, fun _ => ⟨rfl, HE.out.symm⟩, fun h => absurd (HE.out.symm.trans h) HH.out, fun _ _ h => absurd (HE.out.symm.trans h) HH.out⟩, C.new k7 HRB.out⟩
end Go.Proofs.YtledggdoehnlcaaGreat
