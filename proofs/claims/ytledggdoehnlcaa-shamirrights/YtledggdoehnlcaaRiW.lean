/- ShamirRights: the walk. -/
import Derived.Test.YtledggdoehnlcaaMgO
import Derived.Test.YtledggdoehnlcaaMgE
import Derived.Test.YtledggdoehnlcaaMgS
import Derived.Test.YtledggdoehnlcaaMgK
set_option linter.unusedVariables false
set_option linter.unusedSimpArgs false
set_option linter.unnecessarySimpa false
namespace Go.Proofs.Ytledggdoehnlcaa
open Go.RowKit N

theorem cnt_up (b : Nat → Bool) (k : Nat) (z : Bool) : ∀ N, Q.cnt (fun j => if j = k then z else b j) N ≤ Q.cnt b N + 1 ∧ (N ≤ k → Q.cnt (fun j => if j = k then z else b j) N = Q.cnt b N)
  | 0 => ⟨Nat.le_succ _, fun _ => rfl⟩
  | N + 1 => by
    obtain ⟨h1, h2⟩ := cnt_up b k z N
    rw [Q.cnt_s, Q.cnt_s]
    by_cases e : N = k
    · rw [if_pos e]
      refine ⟨?_, fun h => by omega⟩
      have := h2 (by omega)
      by_cases hz : z = true
      · rw [if_pos hz]; omega
      · rw [if_neg hz]; omega
    · rw [if_neg e]
      refine ⟨by omega, fun h => ?_⟩
      rw [h2 (by omega)]
theorem cnt_congr {b c : Nat → Bool} : ∀ {N : Nat}, (∀ i, i < N → b i = c i) → Q.cnt b N = Q.cnt c N
  | 0, _ => rfl
  | N + 1, h => by rw [Q.cnt_s, Q.cnt_s, cnt_congr (fun i hi => h i (by omega)), h N (by omega)]
/-- The shares, of which some were turned, and the marks. -/
def RiP (f : Nat → Nat) (T : Nat) (d : Nat → Int) (N : Nat) (y : Nat → Int) (b : Nat → Bool) (i : Nat) : Prop := (∀ k, k < N → RL (y k) ∧ b k = !decide (y k = ev f (d k) 0 T)) ∧ Q.cnt b N ≤ i
theorem cnt_none : ∀ N, Q.cnt (fun _ => false) N = 0
  | 0 => rfl
  | N + 1 => by rw [Q.cnt_s, cnt_none N]; rfl
theorem RiP.start (f : Nat → Nat) (T : Nat) (d : Nat → Int) (N : Nat) : RiP f T d N (fun i => ev f (d i) 0 T) (fun _ => false) 0 := ⟨fun k _ => ⟨ev_rl _ _ _ _, by simp⟩, by rw [cnt_none]; exact Nat.le_refl _⟩
theorem RiP.step {f : Nat → Nat} {T : Nat} {d : Nat → Int} {N : Nat} {y : Nat → Int} {b : Nat → Bool} {i : Nat} (h : RiP f T d N y b i) {k : Nat} {X Y : Int} (rX : RL X) (hY : ev f (d k) 0 T = Y) : RiP f T d N (upS y k X) (fun j => if j = k then !eqf X Y else b j) (i + 1) := by
  refine ⟨fun j hj => ?_, by have := (cnt_up b k (!eqf X Y) N).1; have := h.2; omega⟩
  unfold upS
  by_cases e : j = k
  · subst e
    simp only [if_pos]
    rw [← hY, eqf_eq (r256_rl rX) (r256_rl (ev_rl _ _ _ _))]
    exact ⟨rX, rfl⟩
  · simp only [if_neg e]
    exact h.1 j hj
theorem RiP.st {f : Nat → Nat} {T : Nat} {d : Nat → Int} {N : Nat} {y : Nat → Int} {b : Nat → Bool} {i : Nat} (h : RiP f T d N y b i) : ∀ k, k < N → b k = stB f T d y k := fun k hk => by
  unfold stB
  rw [(h.1 k hk).2, show cn (y k) = y k from mod_id (h.1 k hk).1]
  congr 1
  simp only [eq_comm]
theorem RiP.len {f : Nat → Nat} {T : Nat} {d : Nat → Int} {N : Nat} {y : Nat → Int} {b : Nat → Bool} {i : Nat} (h : RiP f T d N y b i) : (stL f T d y N).length ≤ i := by
  rw [st_cnt, ← cnt_congr h.st]; exact h.2
/-- What Correct must answer. -/
theorem ri_end {f : Nat → Nat} {T : Nat} {d : Nat → Int} {N : Nat} {y : Nat → Int} {b : Nat → Bool} {e base : Nat} {w' : World} {r : Value} (h1 : 0 < T) (h2 : T ≤ N) (hid : idR d N = 0) (he : (N - T) / 2 = e) (h : RiP f T d N y b e) (hc : CrP d y N (T : Int) base w' r) :
    ∃ (g : Nat) (s : Value) (c : Nat → Int), r = .tuple #[.slice (some ⟨g, 0, none⟩) T T, s, .int .i64 0] ∧ Sb w' g T c ∧ (∀ j, RL (c j)) ∧ Oi w' base s (wnt d b N 255) ∧ ∀ j, j < T → ad ((f j : Nat) : Int) 0 = ((nT c j : Nat) : Int) := by
  have h0 := (idR_zero hid).1
  have hl := idE_len h0
  have hE : enR d N (T : Int) = 0 := by unfold enR; rw [if_pos (by omega), if_neg (by omega), hid]
  have hs := h.len
  rcases hc with ⟨c, rfl, ⟨hn, _⟩ | ⟨_, _, hno⟩⟩ | ⟨_, g, s, c, rfl, _, _, S, hr, hlen, O⟩
  · exact absurd hE hn
  · rw [Int.toNat_natCast, he] at hno
    exact absurd hs (hno f)
  · rw [Int.toNat_natCast] at S hlen O
    rw [he] at hlen
    have hone := co_one h0 (show T + e + e ≤ N by omega) f (nT c) hs hlen
    refine ⟨g, s, c, by rw [Int.toNat_natCast], S, hr, ?_, fun j hj => ?_⟩
    · rw [← srt_wnt (f := f) (M := T) (y := y) (idE_zero h0).1 h.st, stL_cong hone N]
      exact O
    · unfold ad
      rw [Int.add_zero, hone j hj, nT_c _ _ (hr j).1]
      exact mod_id (hr j)
theorem tm_nat {u : Int} {N : Nat} (hN : 0 < N) (h : ¬ u.tmod (N : Int) < 0) : ∃ k : Nat, k < N ∧ u.tmod (N : Int) = (k : Int) := by
  have h1 := Int.tmod_lt_of_pos u (show (0 : Int) < (N : Int) by omega)
  exact ⟨(u.tmod (N : Int)).toNat, by omega, by omega⟩
theorem tm_neg {u : Int} {N : Nat} (hN : 0 < N) (h : u.tmod (N : Int) < 0) : ∃ k : Nat, k < N ∧ u.tmod (N : Int) + (N : Int) = (k : Int) := by
  have h1 : -(N : Int) < u.tmod (N : Int) := by
    by_cases hu : 0 ≤ u
    · have := Int.tmod_nonneg (N : Int) hu; omega
    · have e := Int.neg_tmod (-u) (N : Int)
      rw [Int.neg_neg] at e
      have := Int.tmod_lt_of_pos (-u) (show (0 : Int) < (N : Int) by omega)
      omega
  exact ⟨(u.tmod (N : Int) + (N : Int)).toNat, by omega, by omega⟩
theorem tm_pos {i M : Nat} (hM : 0 < M) : ∃ q : Nat, q < M ∧ (i : Int).tmod (M : Int) = (q : Int) := tm_nat hM (by have := Int.tmod_nonneg (M : Int) (show (0 : Int) ≤ (i : Int) by omega); omega)
set_option maxHeartbeats 64000000 in
set_option maxRecDepth 100000 in
theorem rights_walk (va vi vt vo : Value) (T N P M : Nat) (f : Nat → Nat) (d u : Nat → Int) (h : Nat → Nat) (hT : T ≤ 4611686018427387904) (hN : N ≤ 4611686018427387904) (hP : P ≤ 4611686018427387904) (hM : M ≤ 4611686018427387904) (hu : ∀ i, i < P → -9223372036854775808 ≤ u i ∧ u i ≤ 9223372036854775807) (w : World) (hLa : Ls w va T f) (hLi : Il w vi N d) (hLt : Il w vt P u) (hLo : Ls w vo M h) :
    Calls Try.prog 4 #[va, vi, vt, vo] w fun e w' => e = .returned (.bool true) ∧ Chg w w' [] := by
  have HLa : Hid (Ls w va T f) := hLa
  have HLi : Hid (Il w vi N d) := hLi
  obtain ⟨pa, ca, rfl, _⟩ := hLa.range
  obtain ⟨pi, ci, rfl, _⟩ := hLi.form
  obtain ⟨pt, ct, rfl, hpt⟩ := hLt.form
  have HRh : Hid (∀ i, i < M → R256 ((h i : Nat) : Int)) := fun i hi => hLo.r256 hi
  obtain ⟨po, co, rfl, hpo⟩ := hLo.range
  have HPt : Hid (∀ i, i < P → ∃ g o, pt = some ⟨g, o, none⟩ ∧ g < w.heap.size ∧ w.cell? ⟨g, o + i, none⟩ = some (.int .i64 (u i))) := hpt
  have HPo : Hid (∀ i, i < M → ∃ g o, po = some ⟨g, o, none⟩ ∧ g < w.heap.size ∧ w.rangeAt g (o + i * 32) (feL (h i : Nat))) := hpo
  have HB : Hid (T ≤ 4611686018427387904 ∧ N ≤ 4611686018427387904 ∧ P ≤ 4611686018427387904 ∧ M ≤ 4611686018427387904) := ⟨hT, hN, hP, hM⟩
  have HU : Hid (∀ i, i < P → -9223372036854775808 ≤ u i ∧ u i ≤ 9223372036854775807) := hu
  have hge := feGuard
  obtain ⟨ib, hib, hibz, hibs, _⟩ := boolRow
  obtain ⟨ii, hii, hizz, hiss, _⟩ := intRowS
  clear hLa hLi hLt hLo hpt hpo hT hN hP hM hu
  go_enter Try.func4, Try.ntmps4
  go_wp2_with fail
  refine (alive_s w).mono ?_
  rintro e w2 ⟨rfl, C⟩
  go_wp2_with fail
  refine (Split_s _ _ T f HB.out.1 N d HB.out.2.1 w2 (HLa.out.chg0 C) (HLi.out.chg C)).mono ?_
  rintro e w3 ⟨P1, k⟩
  have CW2 : Hid (w.heap.size ≤ w2.heap.size) := C.size
  replace C := C.trans1 k
  clear k
  by_cases h0 : idR d N = 0
  · rcases P1 with ⟨hbad, _⟩ | ⟨_, g, hg0, rfl, Hx⟩
    · exact absurd h0 hbad
    have HZ : Hid (idR d N = 0) := h0
    have HGW : Hid (w.heap.size ≤ g) := by have := CW2.out; show w.heap.size ≤ g; omega
    clear h0
    by_cases hT1 : (T : Int) < 1
    · go_wp2_with (go_at_call 10; refine (numS 0 (by decide) _).mono ?_; rintro e w' ⟨rfl, rfl⟩)
      go_ret
      exact ⟨rfl, C⟩
    by_cases hNT : (N : Int) < (T : Int)
    · go_wp2_with (go_at_call 10; refine (numS 0 (by decide) _).mono ?_; rintro e w' ⟨rfl, rfl⟩)
      go_ret
      exact ⟨rfl, C⟩
    by_cases hM0 : (M : Int) = 0
    · have hMb : ((M : Int) == 0) = true := by simp; omega
      go_wp2_with (go_at_call 10; refine (numS 0 (by decide) _).mono ?_; rintro e w' ⟨rfl, rfl⟩)
      go_ret
      exact ⟨rfl, C⟩
    have hMb : ((M : Int) == 0) = false := by simp; omega
    have HN : Hid (N ≤ 255) := idE_len (idR_zero HZ.out).1
    have HD : Hid (∀ i, i < N → 1 ≤ d i ∧ d i ≤ 255) := (idE_zero (idR_zero HZ.out).1).1
    have HT : Hid (0 < T ∧ T ≤ 255 ∧ T ≤ N ∧ 0 < M) := by have := HN.out; show 0 < T ∧ T ≤ 255 ∧ T ≤ N ∧ 0 < M; omega
    obtain ⟨e, he⟩ : ∃ e, (N - T) / 2 = e := ⟨_, rfl⟩
    have HE : Hid ((N - T) / 2 = e ∧ e ≤ 255) := ⟨he, by have := HN.out; omega⟩
    obtain ⟨df, hdf⟩ : ∃ m : Nat, m = N - T := ⟨_, rfl⟩
    have e0 : IntKind.i64.wrap ((N : Int) - (T : Int)) = (df : Int) := by have := HN.out; rw [IntKind.wrap_i64]; omega
    have e1 : Int.tdiv (df : Int) 2 = (e : Int) := by rw [Int.tdiv_eq_ediv_of_nonneg (by omega)]; omega
    have e2 : IntKind.i64.wrap (e : Int) = (e : Int) := by have := HE.out; rw [IntKind.wrap_i64]; omega
    have hN0 : ¬ (N : Int) = 0 := by have := HT.out; omega
    obtain ⟨B, hB⟩ : ∃ B, w3.heap.size = B := ⟨_, rfl⟩
    have HB3 : Hid (w.heap.size ≤ B ∧ g < B) := ⟨by rw [← hB]; exact C.size, by rw [← hB]; exact Hx.lt⟩
    have HBw : Hid (B ≤ w3.heap.size) := Nat.le_of_eq hB.symm
    have O0 : Ob w3 B (.slice none 0 0) 0 (fun _ => false) := Ob.nil _ _ _
    clear he hdf hB hg0
    go_wp2_with (go_at_call 10; refine (numS 0 (by decide) _).mono ?_; rintro e w' ⟨rfl, rfl⟩)
    have qa : decide ((T : Int) < 1) = false := decide_eq_false (by have := HT.out; omega)
    have qb : decide (N < T) = false := decide_eq_false (by have := HT.out; omega)
    simp only [qa, qb, hMb, Bool.or_false, Bool.false_or, Bool.or_self]
    clear qa qb
    --CUT0
    go_loopw [13, 14] (fun t13 t14 wr => ∃ i : Nat, i ≤ N ∧ t14 = .int .i64 (i : Int) ∧ Ob wr B t13 i (fun _ => false) ∧ Hb wr g N d (fun i => ev f (d i) 0 T) ∧ Chg w wr [] ∧ B ≤ wr.heap.size ∧ FmP t13 i) (fun _ t _ => (N - intOf t).toNat)
    case atStart => exact ⟨0, Nat.zero_le _, rfl, O0, Hx, C, HBw.out, Or.inl rfl⟩
    case round =>
      clear O0 Hx C HBw
      obtain ⟨i, hi, rfl, O, Hx, C, HBw', hform⟩ := hrel
      by_cases h1 : i < N
      · have hI : (i : Int) < (N : Int) := by omega
        have ew : IntKind.i64.wrap ((i : Int) + 1) = (i : Int) + 1 := by have := HN.out; rw [IntKind.wrap_i64]; omega
        have HMs : Hid _ := mN N i h1
        have HI : Hid (i < N) := h1
        have HBw : Hid (B ≤ wr.heap.size) := HBw'
        have HOB : Hid (∀ k, k ∈ ob u13 → B ≤ k) := fun k hk => (ob_own O k hk).1
        clear h1 hi hform HBw'
        go_wp2_with (first
          | (with_reducible refine bslice_w ?_ 47 4 (.const (.bool false)) ?_ (.bool false) ?_ #[.bool false] ib (.bool false) Try.underlying47 hib hibz 1 hibs ?_ ?_ (fill_bool false) ?_
             · rfl
             · rfl
             · rfl
             · omega
             · omega
             intro gx w5 hgx Bx k5)
          | (with_reducible refine append_ob ?_ (.tmp 83) (.tmp 84) ?_ B u13 gx i (fun _ => false) ?_ ?_ (O.chg k5 (by simp)) Bx ?_ ?_ ?_
             · rfl
             · rfl
             · rfl
             · rfl
             · have := HN.out; have := HI.out; omega
             · have := HBw.out; have := k5.size; omega
             intro v6 w6 O6 F6 k6))
        have C6 : Chg w w6 [] := (C.trans1 k5).trans k6 (fun k hk => Or.inr (by have := HOB.out k hk; have := HB3.out; omega))
        have H6 : Hb w6 g N d (fun i => ev f (d i) 0 T) := (Hx.chg k5 (by simp)).chg k6 (fun hk => by have := HOB.out g hk; have := HB3.out; omega)
        have HS : Hid (B ≤ w6.heap.size) := by have := HBw.out; have := k5.size; have := k6.size; show B ≤ w6.heap.size; omega
        clear k5 k6 O Hx C Bx hgx
        go_roundw
        --CUTA
        case rel => exact ⟨i + 1, HI.out, by go_num, O6, H6, C6, HS.out, F6⟩
        case measure => exact HMs.out
      · obtain rfl : N = i := by omega
        obtain ⟨bg, bc, rfl⟩ : ∃ bg bc, u13 = .slice (some ⟨bg, 0, none⟩) N bc := by
          rcases hform with h | h
          · have := HT.out; omega
          · exact h
        have hI : ¬ (N : Int) < (N : Int) := by omega
        have HBG : Hid (B ≤ bg) := (ob_own O bg (by simp [ob, Value.ownBlock])).1
        have R0 : RiP f T d N (fun i => ev f (d i) 0 T) (fun _ => false) 0 := RiP.start f T d N
        clear h1 hi hform
        go_wp2_with fail
        --CUT1
        go_loopw [15] (fun t15 wr => ∃ (i : Nat) (y : Nat → Int) (b : Nat → Bool), i ≤ P ∧ i ≤ e ∧ t15 = .int .i64 (i : Int) ∧ RiP f T d N y b i ∧ Ob wr B (.slice (some ⟨bg, 0, none⟩) N bc) N b ∧ Hb wr g N d y ∧ Chg w wr []) (fun t _ => (P - intOf t).toNat)
        case atStart => exact ⟨0, _, _, Nat.zero_le _, Nat.zero_le _, rfl, R0, O, Hx, C⟩
        case round =>
          clear R0 O Hx C
          obtain ⟨i, y, b, hi, hie, rfl, R, O, Hx, C⟩ := hrel
          have HR : Hid (RiP f T d N y b i) := R
          have HIe : Hid (i ≤ e) := hie
          clear R
          by_cases h1 : i < P ∧ i < e
          · have hI : (i : Int) < (P : Int) := by omega
            have hI2 : (i : Int) < (e : Int) := by omega
            have hI0 : (0 : Int) ≤ (i : Int) := by omega
            have ew : IntKind.i64.wrap ((i : Int) + 1) = (i : Int) + 1 := by have := HE.out; rw [IntKind.wrap_i64]; omega
            have HMs : Hid _ := mN P i h1.1
            have HI : Hid (i < P ∧ i < e) := h1
            obtain ⟨gt, ot, rfl, hgt, hct⟩ := HPt.out i h1.1
            have hc : wr.cell? ⟨gt, ot + i, none⟩ = some (.int .i64 (u i)) := cell_chg hct hgt C (by simp)
            obtain ⟨q, hq, hqe⟩ := tm_pos (i := i) HT.out.2.2.2
            obtain ⟨go, oo, rfl, hgo, hro⟩ := HPo.out q hq
            have hqM : (q : Int) < (M : Int) := by omega
            have hq0 : (0 : Int) ≤ (q : Int) := by omega
            have HRq : Hid (R256 ((h q : Nat) : Int)) := HRh.out q hq
            have hr : wr.rangeAt go (oo + q * 32) (feL (h q : Nat)) := rangeAt_chg hro hgo C (by simp)
            obtain ⟨uu, huu⟩ : ∃ z, u i = z := ⟨_, rfl⟩
            rw [huu] at hc
            obtain ⟨r, hrr⟩ : ∃ r, uu.tmod (N : Int) = r := ⟨_, rfl⟩
            obtain ⟨X, hX⟩ : ∃ X, ad ((h q : Nat) : Int) 0 = X := ⟨_, rfl⟩
            have HX : Hid (ad ((h q : Nat) : Int) 0 = X) := hX
            have HRX : Hid (RL X) := by show RL X; rw [← hX]; exact rl_mod _
            have HCz : Hid (w.heap.size ≤ wr.heap.size) := C.size
            have HGl : Hid (g < wr.heap.size ∧ bg < wr.heap.size) := ⟨Hx.lt, (ob_own O bg (by simp [ob, Value.ownBlock])).2⟩
            clear h1 hi hie hct hgt hro hgo hX hq
            by_cases hneg : r < 0
            · obtain ⟨k, hk, hke⟩ := tm_neg (u := uu) (N := N) (by have := HT.out; omega) (by rw [hrr]; exact hneg)
              rw [hrr] at hke
              have hwk : IntKind.i64.wrap (r + (N : Int)) = (k : Int) := by rw [hke, IntKind.wrap_i64]; have := HN.out; omega
              clear hke huu
              have hki : (k : Int) < (N : Int) := by omega
              have hk0 : (0 : Int) ≤ (k : Int) := by omega
              have HK : Hid (k < N) := hk
              obtain ⟨dk, hdk⟩ : ∃ z, d k = z := ⟨_, rfl⟩
              have hid : wr.cell? ⟨g, k * 33, none⟩ = some (.int .i64 dk) := by have := Hx.id hk; rwa [hdk] at this
              have HDk : Hid (d k = dk) := hdk
              have HOK : Hid (1 ≤ dk ∧ dk ≤ 255) := by have := HD.out k hk; show 1 ≤ dk ∧ dk ≤ 255; rw [← hdk]; exact this
              clear hk hdk
              go_wp2_with (first
                | (with_reducible refine load_sc ?_ (.tmp 115) ?_ go (oo + q * 32) ((h q : Nat) : Int) ?_ hr ?_
                   · rfl
                   · rfl
                   · rfl)
                | (refine gl_build (by rfl) 24 #[] rfl (feC 0) (by kernel_rfl) ?_))
              --CUT2
              refine (Add_q _ 0 HRq.out r256_c0 _).mono ?_
              rintro ex w5 ⟨rfl, k5⟩
              rw [HX.out]
              have hid5 := cell_chg hid HGl.out.1 k5 (by simp)
              replace O := O.chg k5 (by simp)
              replace Hx := Hx.chg k5 (by simp)
              replace C := C.trans1 k5
              have HCz5 : Hid (wr.heap.size ≤ w5.heap.size) := k5.size
              clear hc hr hid k5
              go_wp2_with (first
                | (with_reducible refine alloc_w rfl 24 rfl (.agg z32) zeroSc z32 rfl ?_; intro vb w6 hvb Bv0 k6)
                | (refine store_w Bv0 rfl 24 _ _ (feC X) rfl rfl rfl feInfo rfl (feC_one _) ?_; intro w7 Bv k7; have hid7 := cell_chg (cell_chg hid5 (by have := HGl.out; have := HCz5.out; omega) k6 (by simp)) (by have := HGl.out; have := HCz5.out; have := k6.size; omega) k7 (by have := HGl.out; have := HCz5.out; simp; omega)))
              --CUT3
              have HVB : Hid (w5.heap.size ≤ vb) := hvb
              replace O := (O.chg k6 (by simp)).chg k7 (fun z hz => by simp [ob, Value.ownBlock] at hz; subst hz; have := HGl.out; have := HCz5.out; have := HVB.out; simp; omega)
              replace Hx := (Hx.chg k6 (by simp)).chg k7 (by have := HGl.out; have := HCz5.out; have := HVB.out; simp; omega)
              replace C := (C.trans1 k6).new k7 (by have := HCz.out; have := HCz5.out; have := HVB.out; omega)
              clear k6 k7 Bv0 hid5 hvb
              refine (At_s _ T f HB.out.1 dk _ (HLa.out.chg0 C)).mono ?_
              rintro ex w8 ⟨rfl, k8⟩
              have HAt : Hid (atV f T dk = ev f dk 0 T) := by show atV f T dk = ev f dk 0 T; unfold atV; rw [if_pos (okI_t HOK.out)]
              rw [HAt.out]
              obtain ⟨Y, hY⟩ : ∃ Y, ev f dk 0 T = Y := ⟨_, rfl⟩
              have HY : Hid (ev f (d k) 0 T = Y) := by show ev f (d k) 0 T = Y; rw [HDk.out]; exact hY
              rw [hY]
              obtain ⟨ae, hae⟩ : ∃ z, atE dk = z := ⟨_, rfl⟩
              rw [hae]
              have HGl8 : Hid (g < w8.heap.size ∧ bg < w8.heap.size ∧ vb < w8.heap.size ∧ w.heap.size ≤ w8.heap.size) := by have := HGl.out; have := HCz5.out; have := Bv.lt; have := k8.size; have := Hx.lt; have := C.size; have := (ob_own O bg (by simp [ob, Value.ownBlock])).2; show g < w8.heap.size ∧ bg < w8.heap.size ∧ vb < w8.heap.size ∧ w.heap.size ≤ w8.heap.size; omega
              replace O := O.chg k8 (by simp)
              replace Hx := Hx.chg k8 (by simp)
              replace Bv := Bv.chg k8 (by simp)
              replace C := C.trans1 k8
              clear k8 hid7 hY hae HAt
              go_wp2_with (first
                | (with_reducible refine alloc_w rfl 24 rfl (.agg z32) zeroSc z32 rfl ?_; intro rb w9 hrb Br0 k9)
                | (refine store_w Br0 rfl 24 _ _ (feC Y) rfl rfl rfl feInfo rfl (feC_one _) ?_; intro w10 Br k10; have Bv2 := (Bv.chg k9 (by simp)).chg k10 (by have := HGl8.out; simp; omega); have Hx2 := (Hx.chg k9 (by simp)).chg k10 (by have := HGl8.out; simp; omega))
                | (with_reducible refine load_b Bv2 24 (.tmp 17) Try.underlying24 ?_ ?_ ?_ ?_ ?_ ?_
                   · rfl
                   · rfl
                   · rfl
                   · rfl
                   · exact feInfo)
                | (with_reducible refine store_hv ?_ (.tmp 133) (.tmp 131) ?_ g N k d y X ?_ ?_ Hx2 HK.out ?_
                   · rfl
                   · rfl
                   · rfl
                   · rfl
                   intro w11 Hx3 k11; have Bv3 := Bv2.chg k11 (by have := HVB.out; have := HGl.out; have := HCz5.out; simp; omega); have Br3 := Br.chg k11 (by have := HGl8.out; simp; omega))
                | (with_reducible refine load_b Bv3 24 (.tmp 17) Try.underlying24 ?_ ?_ ?_ ?_ ?_ ?_
                   · rfl
                   · rfl
                   · rfl
                   · rfl
                   · exact feInfo)
                | (with_reducible refine load_b Br3 24 (.tmp 18) Try.underlying24 ?_ ?_ ?_ ?_ ?_ ?_
                   · rfl
                   · rfl
                   · rfl
                   · rfl
                   · exact feInfo)
                | (with_reducible refine store_ob ?_ (.tmp 139) (.tmp 138) ?_ B bg N bc k b (!eqf X Y) ?_ ?_ (((O.chg k9 (by simp)).chg k10 (fun z hz => by simp [ob, Value.ownBlock] at hz; subst hz; have := HGl8.out; simp; omega)).chg k11 (fun z hz => by simp [ob, Value.ownBlock] at hz; subst hz; have := HB3.out; have := HBG.out; simp; omega)) HK.out ?_
                   · rfl
                   · rfl
                   · rfl
                   · rfl
                   intro w12 O3 k12))
              --CUT4
              have C12 : Chg w w12 [] := (((C.trans1 k9).new k10 (by have := HGl8.out; omega)).trans k11 (fun z hz => Or.inr (by simp at hz; subst hz; exact HGW.out))).trans k12 (fun z hz => Or.inr (by simp at hz; subst hz; have := HBG.out; have := HB3.out; omega))
              have Hx4 := Hx3.chg k12 (by have := HB3.out; have := HBG.out; simp; omega)
              have R2 := HR.out.step (k := k) HRX.out HY.out
              clear k9 k10 k11 k12 O Hx C Bv Bv2 Bv3 Br Br3 Br0 Hx2 Hx3 hrb
              go_roundw
              case rel => exact ⟨i + 1, _, _, HI.out.1, HI.out.2, by go_num, R2, O3, Hx4, C12⟩
              case measure => exact HMs.out
            · obtain ⟨k, hk, hke⟩ := tm_nat (u := uu) (N := N) (by have := HT.out; omega) (by rw [hrr]; exact hneg)
              rw [hrr] at hke
              subst hke
              clear huu
              have hki : (k : Int) < (N : Int) := by omega
              have hk0 : (0 : Int) ≤ (k : Int) := by omega
              have HK : Hid (k < N) := hk
              obtain ⟨dk, hdk⟩ : ∃ z, d k = z := ⟨_, rfl⟩
              have hid : wr.cell? ⟨g, k * 33, none⟩ = some (.int .i64 dk) := by have := Hx.id hk; rwa [hdk] at this
              have HDk : Hid (d k = dk) := hdk
              have HOK : Hid (1 ≤ dk ∧ dk ≤ 255) := by have := HD.out k hk; show 1 ≤ dk ∧ dk ≤ 255; rw [← hdk]; exact this
              clear hk hdk
              go_wp2_with (first
                | (with_reducible refine load_sc ?_ (.tmp 115) ?_ go (oo + q * 32) ((h q : Nat) : Int) ?_ hr ?_
                   · rfl
                   · rfl
                   · rfl)
                | (refine gl_build (by rfl) 24 #[] rfl (feC 0) (by kernel_rfl) ?_))
              --CUT2
              refine (Add_q _ 0 HRq.out r256_c0 _).mono ?_
              rintro ex w5 ⟨rfl, k5⟩
              rw [HX.out]
              have hid5 := cell_chg hid HGl.out.1 k5 (by simp)
              replace O := O.chg k5 (by simp)
              replace Hx := Hx.chg k5 (by simp)
              replace C := C.trans1 k5
              have HCz5 : Hid (wr.heap.size ≤ w5.heap.size) := k5.size
              clear hc hr hid k5
              go_wp2_with (first
                | (with_reducible refine alloc_w rfl 24 rfl (.agg z32) zeroSc z32 rfl ?_; intro vb w6 hvb Bv0 k6)
                | (refine store_w Bv0 rfl 24 _ _ (feC X) rfl rfl rfl feInfo rfl (feC_one _) ?_; intro w7 Bv k7; have hid7 := cell_chg (cell_chg hid5 (by have := HGl.out; have := HCz5.out; omega) k6 (by simp)) (by have := HGl.out; have := HCz5.out; have := k6.size; omega) k7 (by have := HGl.out; have := HCz5.out; simp; omega)))
              --CUT3
              have HVB : Hid (w5.heap.size ≤ vb) := hvb
              replace O := (O.chg k6 (by simp)).chg k7 (fun z hz => by simp [ob, Value.ownBlock] at hz; subst hz; have := HGl.out; have := HCz5.out; have := HVB.out; simp; omega)
              replace Hx := (Hx.chg k6 (by simp)).chg k7 (by have := HGl.out; have := HCz5.out; have := HVB.out; simp; omega)
              replace C := (C.trans1 k6).new k7 (by have := HCz.out; have := HCz5.out; have := HVB.out; omega)
              clear k6 k7 Bv0 hid5 hvb
              refine (At_s _ T f HB.out.1 dk _ (HLa.out.chg0 C)).mono ?_
              rintro ex w8 ⟨rfl, k8⟩
              have HAt : Hid (atV f T dk = ev f dk 0 T) := by show atV f T dk = ev f dk 0 T; unfold atV; rw [if_pos (okI_t HOK.out)]
              rw [HAt.out]
              obtain ⟨Y, hY⟩ : ∃ Y, ev f dk 0 T = Y := ⟨_, rfl⟩
              have HY : Hid (ev f (d k) 0 T = Y) := by show ev f (d k) 0 T = Y; rw [HDk.out]; exact hY
              rw [hY]
              obtain ⟨ae, hae⟩ : ∃ z, atE dk = z := ⟨_, rfl⟩
              rw [hae]
              have HGl8 : Hid (g < w8.heap.size ∧ bg < w8.heap.size ∧ vb < w8.heap.size ∧ w.heap.size ≤ w8.heap.size) := by have := HGl.out; have := HCz5.out; have := Bv.lt; have := k8.size; have := Hx.lt; have := C.size; have := (ob_own O bg (by simp [ob, Value.ownBlock])).2; show g < w8.heap.size ∧ bg < w8.heap.size ∧ vb < w8.heap.size ∧ w.heap.size ≤ w8.heap.size; omega
              replace O := O.chg k8 (by simp)
              replace Hx := Hx.chg k8 (by simp)
              replace Bv := Bv.chg k8 (by simp)
              replace C := C.trans1 k8
              clear k8 hid7 hY hae HAt
              go_wp2_with (first
                | (with_reducible refine alloc_w rfl 24 rfl (.agg z32) zeroSc z32 rfl ?_; intro rb w9 hrb Br0 k9)
                | (refine store_w Br0 rfl 24 _ _ (feC Y) rfl rfl rfl feInfo rfl (feC_one _) ?_; intro w10 Br k10; have Bv2 := (Bv.chg k9 (by simp)).chg k10 (by have := HGl8.out; simp; omega); have Hx2 := (Hx.chg k9 (by simp)).chg k10 (by have := HGl8.out; simp; omega))
                | (with_reducible refine load_b Bv2 24 (.tmp 17) Try.underlying24 ?_ ?_ ?_ ?_ ?_ ?_
                   · rfl
                   · rfl
                   · rfl
                   · rfl
                   · exact feInfo)
                | (with_reducible refine store_hv ?_ (.tmp 133) (.tmp 131) ?_ g N k d y X ?_ ?_ Hx2 HK.out ?_
                   · rfl
                   · rfl
                   · rfl
                   · rfl
                   intro w11 Hx3 k11; have Bv3 := Bv2.chg k11 (by have := HVB.out; have := HGl.out; have := HCz5.out; simp; omega); have Br3 := Br.chg k11 (by have := HGl8.out; simp; omega))
                | (with_reducible refine load_b Bv3 24 (.tmp 17) Try.underlying24 ?_ ?_ ?_ ?_ ?_ ?_
                   · rfl
                   · rfl
                   · rfl
                   · rfl
                   · exact feInfo)
                | (with_reducible refine load_b Br3 24 (.tmp 18) Try.underlying24 ?_ ?_ ?_ ?_ ?_ ?_
                   · rfl
                   · rfl
                   · rfl
                   · rfl
                   · exact feInfo)
                | (with_reducible refine store_ob ?_ (.tmp 139) (.tmp 138) ?_ B bg N bc k b (!eqf X Y) ?_ ?_ (((O.chg k9 (by simp)).chg k10 (fun z hz => by simp [ob, Value.ownBlock] at hz; subst hz; have := HGl8.out; simp; omega)).chg k11 (fun z hz => by simp [ob, Value.ownBlock] at hz; subst hz; have := HB3.out; have := HBG.out; simp; omega)) HK.out ?_
                   · rfl
                   · rfl
                   · rfl
                   · rfl
                   intro w12 O3 k12))
              --CUT4
              have C12 : Chg w w12 [] := (((C.trans1 k9).new k10 (by have := HGl8.out; omega)).trans k11 (fun z hz => Or.inr (by simp at hz; subst hz; exact HGW.out))).trans k12 (fun z hz => Or.inr (by simp at hz; subst hz; have := HBG.out; have := HB3.out; omega))
              have Hx4 := Hx3.chg k12 (by have := HB3.out; have := HBG.out; simp; omega)
              have R2 := HR.out.step (k := k) HRX.out HY.out
              clear k9 k10 k11 k12 O Hx C Bv Bv2 Bv3 Br Br3 Br0 Hx2 Hx3 hrb
              go_roundw
              case rel => exact ⟨i + 1, _, _, HI.out.1, HI.out.2, by go_num, R2, O3, Hx4, C12⟩
              case measure => exact HMs.out
          · have hst : ¬ (i < P ∧ i < e) := h1
            have HL := RiP.len HR.out
            by_cases hiP : (i : Int) < (P : Int)
            · have hI2 : ¬ (i : Int) < (e : Int) := by omega
              clear h1 hi hie hst
              go_wp2_with fail
              --CUT5
              obtain ⟨B2, hB2⟩ : ∃ B, wr.heap.size = B := ⟨_, rfl⟩
              have HB2 : Hid (w.heap.size ≤ B2 ∧ g < B2 ∧ bg < B2) := ⟨by rw [← hB2]; exact C.size, by rw [← hB2]; exact Hx.lt, by rw [← hB2]; exact (ob_own O bg (by simp [ob, Value.ownBlock])).2⟩
              have HBw : Hid (B2 ≤ wr.heap.size) := Nat.le_of_eq hB2.symm
              have W0 : Oi wr B2 (.slice none 0 0) (wnt d b N 0) := Oi.nil _ _
              clear hB2
              go_loopw [20, 21] (fun t20 t21 wq => ∃ m id : Nat, id = m + 1 ∧ m ≤ 255 ∧ t21 = .int .i64 (id : Int) ∧ Oi wq B2 t20 (wnt d b N m) ∧ Ob wq B (.slice (some ⟨bg, 0, none⟩) N bc) N b ∧ Hb wq g N d y ∧ Chg w wq [] ∧ B2 ≤ wq.heap.size) (fun _ t _ => ((256 : Nat) - intOf t).toNat)
              case atStart => exact ⟨0, 1, rfl, by omega, rfl, W0, O, Hx, C, HBw.out⟩
              case round =>
                clear W0 O Hx C HBw
                obtain ⟨m, id, hid, hm, rfl, W1, O, Hx, C, HBw⟩ := hrel
                by_cases hm2 : m < 255
                · have hidi : (id : Int) ≤ 255 := by omega
                  have HID : Hid (id = m + 1 ∧ m < 255) := ⟨hid, hm2⟩
                  have ew : IntKind.i64.wrap ((id : Int) + 1) = ((id + 1 : Nat) : Int) := by rw [IntKind.wrap_i64]; omega
                  have HMo : Hid _ := mN 256 id (by omega)
                  have HWi : Hid (wi d b (id : Int) 0 = []) := rfl
                  have W2 : Oi wr B2 u20 (wnt d b N m ++ wi d b (id : Int) 0) := by rw [HWi.out, List.append_nil]; exact W1
                  clear hid hm hm2 W1
                  go_wp2_with fail
                  --CUT6
                  go_loopw [20, 22] (fun t20 t22 wq => ∃ k : Nat, k ≤ N ∧ t22 = .int .i64 (k : Int) ∧ Oi wq B2 t20 (wnt d b N m ++ wi d b (id : Int) k) ∧ Ob wq B (.slice (some ⟨bg, 0, none⟩) N bc) N b ∧ Hb wq g N d y ∧ Chg w wq [] ∧ B2 ≤ wq.heap.size) (fun _ t _ => (N - intOf t).toNat)
                  case atStart => exact ⟨0, Nat.zero_le _, rfl, W2, O, Hx, C, HBw⟩
                  case round =>
                    clear W2 O Hx C HBw
                    obtain ⟨k, hk, rfl, W2, O, Hx, C, HBw'⟩ := hrel
                    by_cases hk2 : k < N
                    · have hki : (k : Int) < (N : Int) := by omega
                      have hk0 : (0 : Int) ≤ (k : Int) := by omega
                      have ewk : IntKind.i64.wrap ((k : Int) + 1) = (k : Int) + 1 := by have := HN.out; rw [IntKind.wrap_i64]; omega
                      have HMs : Hid _ := mN N k hk2
                      have HK : Hid (k < N) := hk2
                      have HBw : Hid (B2 ≤ wr.heap.size) := HBw'
                      have hcd : wr.cell? ⟨g, k * 33, none⟩ = some (.int .i64 (d k)) := Hx.id hk2
                      have hcb : wr.cell? ⟨bg, k, none⟩ = some (.bool (b k)) := O.cell hk2
                      have HW : Hid (wi d b (id : Int) (k + 1) = if d k = (id : Int) ∧ b k = true then wi d b (id : Int) k ++ [(id : Int)] else wi d b (id : Int) k) := rfl
                      clear hk hk2 HBw'
                      by_cases hdk : d k = (id : Int)
                      · by_cases hbk : b k = true
                        · rw [hbk] at hcb
                          rw [hdk] at hcd
                          have HW2 : Hid (wnt d b N m ++ wi d b (id : Int) (k + 1) = (wnt d b N m ++ wi d b (id : Int) k) ++ [(id : Int)]) := by show _ = _; rw [HW.out, if_pos ⟨hdk, hbk⟩, List.append_assoc]
                          have HLn : Hid ((wnt d b N m ++ wi d b (id : Int) k).length ≤ 100000) := by
                            have := wnt_len d b N m; have := wi_len d b (id : Int) k; have := HID.out; have := HN.out; have := HK.out
                            have : m * N ≤ 255 * 255 := Nat.mul_le_mul (by omega) (by omega)
                            show (wnt d b N m ++ wi d b (id : Int) k).length ≤ 100000
                            rw [List.length_append]; omega
                          have HOB : Hid (∀ z, z ∈ ob u20 → B2 ≤ z) := fun z hz => (ob_own W2 z hz).1
                          clear HW hdk hbk
                          go_upto_region 31 with fail
                          --CUT9
                          go_wp2_with (first
                            | (with_reducible refine bslice_w ?_ 27 3 (.tmp 164) ?_ (.int .i64 (id : Int)) ?_ #[.int .i64 (id : Int)] ii (.int .i64 0) Try.underlying27 hii hizz 1 hiss ?_ ?_ (fill_int (id : Int)) ?_
                               · rfl
                               · rfl
                               · rfl
                               · omega
                               · omega
                               intro gx w5 hgx Bx k5)
                            | (with_reducible refine append_oi ?_ (.tmp 163) (.tmp 165) ?_ B2 u20 gx (wnt d b N m ++ wi d b (id : Int) k) (id : Int) ?_ ?_ (W2.chg k5) Bx ?_ ?_ ?_
                               · rfl
                               · rfl
                               · rfl
                               · rfl
                               · have := HLn.out; omega
                               · have := HBw.out; have := k5.size; omega
                               intro v6 w6 W6 k6))
                          have C6 : Chg w w6 [] := (C.trans1 k5).trans k6 (fun z hz => Or.inr (by have := HOB.out z hz; have := HB2.out; omega))
                          have H6 := (Hx.chg k5 (by simp)).chg k6 (fun hz => by have := HOB.out g hz; have := HB2.out; omega)
                          have O6 := (O.chg k5 (by simp)).chg k6 (fun z hz hz2 => by simp [ob, Value.ownBlock] at hz; subst hz; have := HOB.out _ hz2; have := HB2.out; omega)
                          have HS : Hid (B2 ≤ w6.heap.size) := by have := HBw.out; have := k5.size; have := k6.size; show B2 ≤ w6.heap.size; omega
                          --CUT8
                          clear k5 k6 W2 O Hx C Bx hgx hcd hcb
                          go_roundw
                          case rel => exact ⟨k + 1, HK.out, by go_num, by rw [HW2.out]; exact W6, O6, H6, C6, HS.out⟩
                          case measure => exact HMs.out
                        · have hbk2 : b k = false := by simpa using hbk
                          rw [hbk2] at hcb
                          rw [hdk] at hcd
                          have HW2 : Hid (wi d b (id : Int) (k + 1) = wi d b (id : Int) k) := by show _ = _; rw [HW.out, if_neg (fun x => hbk x.2)]
                          clear HW hdk hbk hbk2
                          go_wp2_with fail
                          go_roundw
                          case rel => exact ⟨k + 1, HK.out, by go_num, by rw [HW2.out]; exact W2, O, Hx, C, HBw.out⟩
                          case measure => exact HMs.out
                      · have hdk2 : ¬ d k = (id : Int) := hdk
                        have hdb : (d k == (id : Int)) = false := by simpa using hdk
                        have HW2 : Hid (wi d b (id : Int) (k + 1) = wi d b (id : Int) k) := by show _ = _; rw [HW.out, if_neg (fun x => hdk x.1)]
                        clear HW hdk
                        go_wp2_with fail
                        go_roundw
                        case rel => exact ⟨k + 1, HK.out, by go_num, by rw [HW2.out]; exact W2, O, Hx, C, HBw.out⟩
                        case measure => exact HMs.out
                    · obtain rfl : N = k := by omega
                      have hki : ¬ (N : Int) < (N : Int) := by omega
                      have HS : Hid (B2 ≤ wr.heap.size) := HBw'
                      have W3 : Oi wr B2 u20 (wnt d b N (m + 1)) := by
                        show Oi wr B2 u20 (wnt d b N m ++ wi d b ((m + 1 : Nat) : Int) N)
                        rw [← HID.out.1]; exact W2
                      clear W2 hk hk2 HBw'
                      go_wp2_with fail
                      go_roundw
                      case rel => exact ⟨m + 1, id + 1, by have := HID.out; omega, by have := HID.out; omega, by go_num, W3, O, Hx, C, HS.out⟩
                      case measure => exact HMo.out
                · obtain rfl : m = 255 := by omega
                  subst hid
                  have HRe : Hid (RiP f T d N y b e) := ⟨HR.out.1, by have := HR.out.2; have := HIe.out; omega⟩
                  have HLc := Hx.hl (n := N) (by have := HN.out; omega) (fun j hj => r256_rl (HR.out.1 j hj).1) (Nat.le_refl _)
                  clear hm hm2 O Hx
                  go_wp2_with fail
                  --CUT7
                  refine (Correct_g _ N d y HB.out.2.1 (T : Int) _ HLc).mono ?_
                  rintro ex w5 ⟨r5, rfl, hcr, k5⟩
                  obtain ⟨g5, s5, c5, rfl, S5, hr5, O5, hf5⟩ := ri_end HT.out.1 HT.out.2.2.1 HZ.out HE.out.1 HRe.out hcr
                  replace C := C.trans1 k5
                  replace W1 := W1.chg k5
                  have HF5 : Hid (∀ j, j < T → ad ((f j : Nat) : Int) 0 = ((nT c5 j : Nat) : Int)) := hf5
                  have HR5 : Hid (∀ j, RL (c5 j)) := hr5
                  clear k5 hcr HLc hf5 hr5
                  go_wp2_with (go_at_call 10; refine (numS 0 (by decide) _).mono ?_; rintro e w' ⟨rfl, rfl⟩)
                  refine (canon_s _ T f (by have := HT.out; omega) _ (HLa.out.chg0 C)).mono ?_
                  rintro ex w6 ⟨r6, rfl, O6, k6⟩
                  replace C := C.trans1 k6
                  replace W1 := W1.chg k6
                  replace S5 := S5.chg k6 (by simp)
                  replace O5 := O5.chg k6
                  have L6 := cn_lsR O6 HF5.out
                  have L5 := S5.ls (by have := HT.out; omega) (fun j _ => r256_rl (HR5.out j)) (Nat.le_refl _)
                  clear k6 O6 S5
                  go_wp2_with fail
                  refine (SameScalars_t _ _ T (nT c5) (by have := HT.out; omega) w6 L5 L6).mono ?_
                  rintro ex w7 ⟨rfl, k7⟩
                  replace C := C.trans1 k7
                  replace W1 := (W1.chg k7).ilG
                  replace O5 := (O5.chg k7).ilG
                  clear k7 L5 L6
                  go_wp2_with fail
                  refine (SameInts_j _ _ _ _ (by have := wnt_len d b N 255; have := HN.out; have : 255 * N ≤ 255 * 255 := Nat.mul_le_mul (by omega) (by omega); omega) w7 O5 W1).mono ?_
                  rintro ex w8 ⟨rfl, k8⟩
                  replace C := C.trans1 k8
                  go_wp2_with fail
                  go_ret
                  exact ⟨rfl, C⟩
            · clear h1 hi hie hst
              go_wp2_with fail
              --CUT5
              obtain ⟨B2, hB2⟩ : ∃ B, wr.heap.size = B := ⟨_, rfl⟩
              have HB2 : Hid (w.heap.size ≤ B2 ∧ g < B2 ∧ bg < B2) := ⟨by rw [← hB2]; exact C.size, by rw [← hB2]; exact Hx.lt, by rw [← hB2]; exact (ob_own O bg (by simp [ob, Value.ownBlock])).2⟩
              have HBw : Hid (B2 ≤ wr.heap.size) := Nat.le_of_eq hB2.symm
              have W0 : Oi wr B2 (.slice none 0 0) (wnt d b N 0) := Oi.nil _ _
              clear hB2
              go_loopw [20, 21] (fun t20 t21 wq => ∃ m id : Nat, id = m + 1 ∧ m ≤ 255 ∧ t21 = .int .i64 (id : Int) ∧ Oi wq B2 t20 (wnt d b N m) ∧ Ob wq B (.slice (some ⟨bg, 0, none⟩) N bc) N b ∧ Hb wq g N d y ∧ Chg w wq [] ∧ B2 ≤ wq.heap.size) (fun _ t _ => ((256 : Nat) - intOf t).toNat)
              case atStart => exact ⟨0, 1, rfl, by omega, rfl, W0, O, Hx, C, HBw.out⟩
              case round =>
                clear W0 O Hx C HBw
                obtain ⟨m, id, hid, hm, rfl, W1, O, Hx, C, HBw⟩ := hrel
                by_cases hm2 : m < 255
                · have hidi : (id : Int) ≤ 255 := by omega
                  have HID : Hid (id = m + 1 ∧ m < 255) := ⟨hid, hm2⟩
                  have ew : IntKind.i64.wrap ((id : Int) + 1) = ((id + 1 : Nat) : Int) := by rw [IntKind.wrap_i64]; omega
                  have HMo : Hid _ := mN 256 id (by omega)
                  have HWi : Hid (wi d b (id : Int) 0 = []) := rfl
                  have W2 : Oi wr B2 u20 (wnt d b N m ++ wi d b (id : Int) 0) := by rw [HWi.out, List.append_nil]; exact W1
                  clear hid hm hm2 W1
                  go_wp2_with fail
                  --CUT6
                  go_loopw [20, 22] (fun t20 t22 wq => ∃ k : Nat, k ≤ N ∧ t22 = .int .i64 (k : Int) ∧ Oi wq B2 t20 (wnt d b N m ++ wi d b (id : Int) k) ∧ Ob wq B (.slice (some ⟨bg, 0, none⟩) N bc) N b ∧ Hb wq g N d y ∧ Chg w wq [] ∧ B2 ≤ wq.heap.size) (fun _ t _ => (N - intOf t).toNat)
                  case atStart => exact ⟨0, Nat.zero_le _, rfl, W2, O, Hx, C, HBw⟩
                  case round =>
                    clear W2 O Hx C HBw
                    obtain ⟨k, hk, rfl, W2, O, Hx, C, HBw'⟩ := hrel
                    by_cases hk2 : k < N
                    · have hki : (k : Int) < (N : Int) := by omega
                      have hk0 : (0 : Int) ≤ (k : Int) := by omega
                      have ewk : IntKind.i64.wrap ((k : Int) + 1) = (k : Int) + 1 := by have := HN.out; rw [IntKind.wrap_i64]; omega
                      have HMs : Hid _ := mN N k hk2
                      have HK : Hid (k < N) := hk2
                      have HBw : Hid (B2 ≤ wr.heap.size) := HBw'
                      have hcd : wr.cell? ⟨g, k * 33, none⟩ = some (.int .i64 (d k)) := Hx.id hk2
                      have hcb : wr.cell? ⟨bg, k, none⟩ = some (.bool (b k)) := O.cell hk2
                      have HW : Hid (wi d b (id : Int) (k + 1) = if d k = (id : Int) ∧ b k = true then wi d b (id : Int) k ++ [(id : Int)] else wi d b (id : Int) k) := rfl
                      clear hk hk2 HBw'
                      by_cases hdk : d k = (id : Int)
                      · by_cases hbk : b k = true
                        · rw [hbk] at hcb
                          rw [hdk] at hcd
                          have HW2 : Hid (wnt d b N m ++ wi d b (id : Int) (k + 1) = (wnt d b N m ++ wi d b (id : Int) k) ++ [(id : Int)]) := by show _ = _; rw [HW.out, if_pos ⟨hdk, hbk⟩, List.append_assoc]
                          have HLn : Hid ((wnt d b N m ++ wi d b (id : Int) k).length ≤ 100000) := by
                            have := wnt_len d b N m; have := wi_len d b (id : Int) k; have := HID.out; have := HN.out; have := HK.out
                            have : m * N ≤ 255 * 255 := Nat.mul_le_mul (by omega) (by omega)
                            show (wnt d b N m ++ wi d b (id : Int) k).length ≤ 100000
                            rw [List.length_append]; omega
                          have HOB : Hid (∀ z, z ∈ ob u20 → B2 ≤ z) := fun z hz => (ob_own W2 z hz).1
                          clear HW hdk hbk
                          go_upto_region 31 with fail
                          --CUT9
                          go_wp2_with (first
                            | (with_reducible refine bslice_w ?_ 27 3 (.tmp 164) ?_ (.int .i64 (id : Int)) ?_ #[.int .i64 (id : Int)] ii (.int .i64 0) Try.underlying27 hii hizz 1 hiss ?_ ?_ (fill_int (id : Int)) ?_
                               · rfl
                               · rfl
                               · rfl
                               · omega
                               · omega
                               intro gx w5 hgx Bx k5)
                            | (with_reducible refine append_oi ?_ (.tmp 163) (.tmp 165) ?_ B2 u20 gx (wnt d b N m ++ wi d b (id : Int) k) (id : Int) ?_ ?_ (W2.chg k5) Bx ?_ ?_ ?_
                               · rfl
                               · rfl
                               · rfl
                               · rfl
                               · have := HLn.out; omega
                               · have := HBw.out; have := k5.size; omega
                               intro v6 w6 W6 k6))
                          have C6 : Chg w w6 [] := (C.trans1 k5).trans k6 (fun z hz => Or.inr (by have := HOB.out z hz; have := HB2.out; omega))
                          have H6 := (Hx.chg k5 (by simp)).chg k6 (fun hz => by have := HOB.out g hz; have := HB2.out; omega)
                          have O6 := (O.chg k5 (by simp)).chg k6 (fun z hz hz2 => by simp [ob, Value.ownBlock] at hz; subst hz; have := HOB.out _ hz2; have := HB2.out; omega)
                          have HS : Hid (B2 ≤ w6.heap.size) := by have := HBw.out; have := k5.size; have := k6.size; show B2 ≤ w6.heap.size; omega
                          --CUT8
                          clear k5 k6 W2 O Hx C Bx hgx hcd hcb
                          go_roundw
                          case rel => exact ⟨k + 1, HK.out, by go_num, by rw [HW2.out]; exact W6, O6, H6, C6, HS.out⟩
                          case measure => exact HMs.out
                        · have hbk2 : b k = false := by simpa using hbk
                          rw [hbk2] at hcb
                          rw [hdk] at hcd
                          have HW2 : Hid (wi d b (id : Int) (k + 1) = wi d b (id : Int) k) := by show _ = _; rw [HW.out, if_neg (fun x => hbk x.2)]
                          clear HW hdk hbk hbk2
                          go_wp2_with fail
                          go_roundw
                          case rel => exact ⟨k + 1, HK.out, by go_num, by rw [HW2.out]; exact W2, O, Hx, C, HBw.out⟩
                          case measure => exact HMs.out
                      · have hdk2 : ¬ d k = (id : Int) := hdk
                        have hdb : (d k == (id : Int)) = false := by simpa using hdk
                        have HW2 : Hid (wi d b (id : Int) (k + 1) = wi d b (id : Int) k) := by show _ = _; rw [HW.out, if_neg (fun x => hdk x.1)]
                        clear HW hdk
                        go_wp2_with fail
                        go_roundw
                        case rel => exact ⟨k + 1, HK.out, by go_num, by rw [HW2.out]; exact W2, O, Hx, C, HBw.out⟩
                        case measure => exact HMs.out
                    · obtain rfl : N = k := by omega
                      have hki : ¬ (N : Int) < (N : Int) := by omega
                      have HS : Hid (B2 ≤ wr.heap.size) := HBw'
                      have W3 : Oi wr B2 u20 (wnt d b N (m + 1)) := by
                        show Oi wr B2 u20 (wnt d b N m ++ wi d b ((m + 1 : Nat) : Int) N)
                        rw [← HID.out.1]; exact W2
                      clear W2 hk hk2 HBw'
                      go_wp2_with fail
                      go_roundw
                      case rel => exact ⟨m + 1, id + 1, by have := HID.out; omega, by have := HID.out; omega, by go_num, W3, O, Hx, C, HS.out⟩
                      case measure => exact HMo.out
                · obtain rfl : m = 255 := by omega
                  subst hid
                  have HRe : Hid (RiP f T d N y b e) := ⟨HR.out.1, by have := HR.out.2; have := HIe.out; omega⟩
                  have HLc := Hx.hl (n := N) (by have := HN.out; omega) (fun j hj => r256_rl (HR.out.1 j hj).1) (Nat.le_refl _)
                  clear hm hm2 O Hx
                  go_wp2_with fail
                  --CUT7
                  refine (Correct_g _ N d y HB.out.2.1 (T : Int) _ HLc).mono ?_
                  rintro ex w5 ⟨r5, rfl, hcr, k5⟩
                  obtain ⟨g5, s5, c5, rfl, S5, hr5, O5, hf5⟩ := ri_end HT.out.1 HT.out.2.2.1 HZ.out HE.out.1 HRe.out hcr
                  replace C := C.trans1 k5
                  replace W1 := W1.chg k5
                  have HF5 : Hid (∀ j, j < T → ad ((f j : Nat) : Int) 0 = ((nT c5 j : Nat) : Int)) := hf5
                  have HR5 : Hid (∀ j, RL (c5 j)) := hr5
                  clear k5 hcr HLc hf5 hr5
                  go_wp2_with (go_at_call 10; refine (numS 0 (by decide) _).mono ?_; rintro e w' ⟨rfl, rfl⟩)
                  refine (canon_s _ T f (by have := HT.out; omega) _ (HLa.out.chg0 C)).mono ?_
                  rintro ex w6 ⟨r6, rfl, O6, k6⟩
                  replace C := C.trans1 k6
                  replace W1 := W1.chg k6
                  replace S5 := S5.chg k6 (by simp)
                  replace O5 := O5.chg k6
                  have L6 := cn_lsR O6 HF5.out
                  have L5 := S5.ls (by have := HT.out; omega) (fun j _ => r256_rl (HR5.out j)) (Nat.le_refl _)
                  clear k6 O6 S5
                  go_wp2_with fail
                  refine (SameScalars_t _ _ T (nT c5) (by have := HT.out; omega) w6 L5 L6).mono ?_
                  rintro ex w7 ⟨rfl, k7⟩
                  replace C := C.trans1 k7
                  replace W1 := (W1.chg k7).ilG
                  replace O5 := (O5.chg k7).ilG
                  clear k7 L5 L6
                  go_wp2_with fail
                  refine (SameInts_j _ _ _ _ (by have := wnt_len d b N 255; have := HN.out; have : 255 * N ≤ 255 * 255 := Nat.mul_le_mul (by omega) (by omega); omega) w7 O5 W1).mono ?_
                  rintro ex w8 ⟨rfl, k8⟩
                  replace C := C.trans1 k8
                  go_wp2_with fail
                  go_ret
                  exact ⟨rfl, C⟩
  · rcases P1 with ⟨_, rfl⟩ | ⟨hz, _⟩
    · obtain ⟨c, hc⟩ : ∃ c, idR d N = c := ⟨_, rfl⟩
      have hwc := idR_wrap d N
      rw [hc] at h0 hwc
      rw [hc]
      go_wp2_with (go_at_call 10; refine (numS c hwc _).mono ?_; rintro e w' ⟨rfl, rfl⟩)
      go_ret
      exact ⟨rfl, C⟩
    · exact absurd hz h0
end Go.Proofs.Ytledggdoehnlcaa
