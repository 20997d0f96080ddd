/- Joined: BkM7, ShCo. -/
import Derived.Test.YtemjpibmefggnaaGreatMgH
import Derived.Test.YtemjpibmefggnaaGreatMgO
/- ShamirBack: the mathematics. -/
set_option linter.unusedVariables false
set_option linter.unusedSimpArgs false
set_option linter.unnecessarySimpa false
namespace Go.Proofs.YtemjpibmefggnaaGreat
open Go.RowKit N

theorem id_ne {d : Nat → Int} {N : Nat} (h : idE d N = 0) : ∀ j, j < N → ¬ zv d j = 0 := fun j hj => by
  haveI := LN_nz
  obtain ⟨q1, q2⟩ := idE_zero h
  refine zv_ne (n := LN) L_LN ?_ (fun i hi e => ?_)
  · intro e
    have h1 := (zq_is0 (n := LN) L_LN (x := 1) ⟨by decide, by decide⟩).1 (by rw [zq_1]; exact e)
    omega
  · have e2 := zq_eq.1 e
    rw [← L_LN, mod_id (id_rl q1 hj), mod_id (id_rl q1 (by omega))] at e2
    have := q2 j i hj (by omega) e2
    omega
theorem kn_no {f : Nat → Int} {i : Nat} {n : Nat} (hn : f i = (n : Int)) (h : ∀ j, j < i → ¬ f j = f i) : kn f i n = false := by
  unfold kn; rw [List.any_eq_false]; intro j hj; have := h j (List.mem_range.1 hj); rw [hn] at this; simpa using this
theorem idE_mk {f : Nat → Int} : ∀ {N : Nat}, (∀ i, i < N → 1 ≤ f i ∧ f i ≤ 255) → (∀ i j, i < N → j < N → f i = f j → i = j) → idE f N = 0
  | 0, _, _ => rfl
  | N + 1, h, hd => by
    have h0 := idE_mk (N := N) (fun i hi => h i (by omega)) (fun i j hi hj => hd i j (by omega) (by omega))
    have hb := h N (by omega)
    obtain ⟨n, hn⟩ : ∃ n : Nat, f N = (n : Int) := ⟨(f N).toNat, by omega⟩
    exact idE_ok h0 hb hn (kn_no hn (fun j hj e => by have := hd j N (by omega) (by omega) e; omega))
theorem ev_cong {f g : Nat → Nat} (x : Int) {T : Nat} (h : ∀ j, j < T → ((f j : Nat) : Int) % L = ((g j : Nat) : Int) % L) : ev f x 0 T = ev g x 0 T := by
  haveI := LN_nz
  have e : zq LN (ev f x 0 T) = zq LN (ev g x 0 T) := by
    rw [zq_ev L_LN, zq_ev L_LN]
    refine Q.pe_congr fun j _ hj => ?_
    rw [zq_eq, ← L_LN]
    exact h j (by omega)
  have e2 := zq_eq.1 e
  rw [← L_LN, mod_id (ev_rl _ _ _ _), mod_id (ev_rl _ _ _ _)] at e2
  exact e2
theorem stL_nil {f : Nat → Nat} {M : Nat} {d y : Nat → Int} : ∀ {N : Nat}, (∀ i, i < N → ev f (d i) 0 M = cn (y i)) → stL f M d y N = []
  | 0, _ => rfl
  | N + 1, h => by
    unfold stL
    rw [if_pos (h N (by omega))]
    exact stL_nil fun i hi => h i (by omega)
/-- Through the first of the shares: the polynomial itself. -/
theorem cc_of_ev {d y : Nat → Int} {N T : Nat} {f : Nat → Nat} (h : idE d N = 0) (hT : T ≤ N) (hy : ∀ i, i < N → y i = ev f (d i) 0 T) : ∀ j, j < T → cc d y T j = ad ((f j : Nat) : Int) 0 := fun j hj => by
  refine (ev_only (X := d) (Y := y) (fun j hj => id_ne h j (by omega)) f (fun k hk => ?_) j hj).symm
  rw [← hy k (by omega)]
  unfold ad
  rw [Int.add_zero, hy k (by omega), mod_id (ev_rl _ _ _ _)]
theorem st_of_ev {d y : Nat → Int} {N T : Nat} {f : Nat → Nat} (h : idE d N = 0) (hT : T ≤ N) (hy : ∀ i, i < N → y i = ev f (d i) 0 T) : stL (nT (cc d y T)) T d y N = [] := stL_nil fun i hi => by
  have e : ev (nT (cc d y T)) (d i) 0 T = ev f (d i) 0 T := ev_cong (d i) fun j hj => by
    rw [nT_c _ _ (cc_r d y T j).1, cc_of_ev h hT hy j hj]
    unfold ad
    rw [Int.add_zero, Int.emod_emod_of_dvd _ (Int.dvd_refl L)]
  rw [e, hy i hi]
  exact (mod_id (ev_rl _ _ _ _)).symm
theorem rc_of_ev {d y : Nat → Int} {N T : Nat} {f : Nat → Nat} (h : idR d N = 0) (h1 : 0 < T) (hT : T ≤ N) (hy : ∀ i, i < N → y i = ev f (d i) 0 T) : RcR d y N (T : Int) = (ad ((f 0 : Nat) : Int) 0, 0) := by
  have h0 := (idR_zero h).1
  have hl := idE_len h0
  have he : enR d N (T : Int) = 0 := by unfold enR; rw [if_pos (by omega), if_neg (by omega), h]
  unfold RcR
  rw [if_neg (by simp [he]), Int.toNat_natCast, if_pos (st_of_ev h0 hT hy), cc_of_ev h0 hT hy 0 h1]
theorem idE_valsB (f : Nat → Int) : ∀ k, idE f k = 0 ∨ idE f k = 4 ∨ idE f k = 5
  | 0 => Or.inl rfl
  | k + 1 => by
    unfold idE
    rcases idE_valsB f k with h | h | h
    · rw [if_pos h]; split
      · split
        · exact Or.inr (Or.inr rfl)
        · exact Or.inl rfl
      · exact Or.inr (Or.inl rfl)
    · rw [if_neg (by rw [h]; decide)]; exact Or.inr (Or.inl h)
    · rw [if_neg (by rw [h]; decide)]; exact Or.inr (Or.inr h)
theorem idR_wrap (f : Nat → Int) (N : Nat) : IntKind.i64.wrap (idR f N) = idR f N := by
  have h : idR f N = 0 ∨ idR f N = 4 ∨ idR f N = 5 ∨ idR f N = 8 := by
    unfold idR
    split
    · exact Or.inr (Or.inr (Or.inr rfl))
    · rcases idE_valsB f N with h | h | h <;> simp [h]
  rw [IntKind.wrap_i64]
  omega
end Go.Proofs.YtemjpibmefggnaaGreat

/- shamir.Consistent. -/
set_option linter.unusedVariables false
set_option linter.unusedSimpArgs false
set_option linter.unnecessarySimpa false
namespace Go.Proofs.YtemjpibmefggnaaGreat
open Go.RowKit N

/-- What Consistent answers. -/
def csR (d y : Nat → Int) (N : Nat) (t : Int) : Bool × Int :=
  if 1 ≤ t ∧ t ≤ 255 then (if idR d N = 0 then (decide ((stL (nT (cc d y (min t.toNat N))) (min t.toNat N) d y N).length = 0), 0) else (false, idR d N)) else (false, 7)
set_option maxHeartbeats 16000000 in
set_option maxRecDepth 100000 in
theorem Consistent_s (v : Value) (N : Nat) (d y : Nat → Int) (hN : N ≤ 4611686018427387904) (t : Int) (hz : ∀ j, idR d N = 0 → j < N → ¬ zv d j = 0) (w : World) (hL : Hl w v N d y) :
    Calls Tryz.prog 30 #[v, .int .i64 t] w fun e w' => e = .returned (.tuple #[.bool (csR d y N t).1, .int .i64 (csR d y N t).2]) ∧ Chg w w' [] := by
  have hK := checkShares_s v N d y hN
  have HL : Hid (Hl w v N d y) := hL
  have HZ : Hid (∀ j, idR d N = 0 → j < N → ¬ zv d j = 0) := hz
  obtain ⟨p, cp, rfl, _⟩ := hL.1.form
  have HK : Hid (∀ w', Hl w' (.slice p N cp) N d y → Calls Tryz.prog 71 #[.slice p N cp] w' fun e w'' => e = .returned (.int .i64 (idR d N)) ∧ Chg w' w'' []) := hK
  obtain ⟨B, hB⟩ : ∃ B, csR d y N t = B := ⟨_, rfl⟩
  have HB : Hid (csR d y N t = B) := hB
  rw [hB]
  clear hL hz hK hN hB
  by_cases h1 : 1 ≤ t ∧ t ≤ 255
  · have ho := okI_t h1
    go_enter Tryz.func30, Tryz.ntmps30
    go_wp2_with (go_at_call 81; refine (isThreshold_s _ _).mono ?_; rintro e w' ⟨rfl, rfl⟩; rw [ho])
    refine (HK.out _ HL.out).mono ?_
    rintro e w1 ⟨rfl, k1⟩
    by_cases h0 : idR d N = 0
    · obtain ⟨T, rfl⟩ : ∃ T : Nat, t = (T : Int) := ⟨t.toNat, by omega⟩
      have hD := idE_zero (idR_zero h0).1
      have hNN := idE_len (idR_zero h0).1
      have hN0 := (idR_zero h0).2
      obtain ⟨m, hm⟩ : ∃ m, min T N = m := ⟨_, rfl⟩
      have HM : Hid (0 < m ∧ m ≤ 255 ∧ m ≤ N) := by show 0 < m ∧ m ≤ 255 ∧ m ≤ N; omega
      have hm1 : (m : Int) ≤ (N : Int) := by omega
      have hm0 : (0 : Int) ≤ (m : Int) := by omega
      have hcap : (m : Int) ≤ (cp : Int) := by
        rcases HL.out.1.2 with ⟨h1, _⟩ | ⟨g, o, cap, e, h1, _⟩
        · omega
        · simp only [Value.slice.injEq] at e
          obtain ⟨_, _, rfl⟩ := e
          omega
      have HN : Hid (N ≤ 255) := hNN
      have HD : Hid (∀ i, i < N → 1 ≤ d i ∧ d i ≤ 255) := hD.1
      have HZ2 : Hid (∀ j, j < N → ¬ zv d j = 0) := fun j hj => HZ.out j h0 hj
      have HB2 : Hid (B = (decide ((stL (nT (cc d y m)) m d y N).length = 0), 0)) := by
        show B = _
        rw [← HB.out]
        unfold csR
        rw [if_pos h1, if_pos h0, Int.toNat_natCast, hm]
      rw [h0]
      have C := k1
      clear h0 hD hNN hN0 k1 h1 HB HZ
      by_cases hNT : N < T
      · have hNI : (N : Int) < (T : Int) := by omega
        obtain rfl : N = m := by omega
        clear hm hNT
        go_wp2_with fail
        refine (throughShares_s _ N d y HM.out.1 HM.out.2.1 (fun i hi => HD.out i (by have := HM.out; omega)) (fun j hj => HZ2.out j (by have := HM.out; omega)) w1 ((HL.out.take HM.out.1 HM.out.2.2).chg C)).mono ?_
        rintro e w2 ⟨g, hg, rfl, S, k⟩
        replace C := C.trans1 k
        clear k hg
        have LC := S.ls (by have := HM.out; omega) (fun j _ => cc_r d y N j) (Nat.le_refl _)
        go_wp2_with fail
        refine (strays_s _ _ N (nT (cc d y N)) (by have := HM.out; omega) N d y HN.out HD.out w2 LC (HL.out.chg C)).mono ?_
        rintro e w3 ⟨r, rfl, O, k⟩
        replace C := C.trans1 k
        obtain ⟨pr, cr, rfl⟩ := O.form
        obtain ⟨n, hn⟩ : ∃ n, (stL (nT (cc d y N)) N d y N).length = n := ⟨_, rfl⟩
        rw [hn]
        have HB3 : Hid (B = (decide (n = 0), 0)) := by show B = _; rw [HB2.out, hn]
        clear k LC O S hn HB2
        by_cases hs : n = 0
        · subst hs
          go_wp2_with fail
          go_ret2
          exact ⟨by rw [HB3.out]; rfl, C⟩
        · have hs' : ¬ (n : Int) = 0 := by omega
          have hq : ((n : Int) == 0) = false := by simp; omega
          have HB4 : Hid (B = (false, 0)) := by show B = _; rw [HB3.out, decide_eq_false hs]
          go_wp2_with fail
          go_ret2
          exact ⟨by rw [HB4.out]; rfl, C⟩
      · have hNI : ¬ (N : Int) < (T : Int) := by omega
        obtain rfl : T = m := by omega
        clear hm hNT
        go_wp2_with fail
        refine (throughShares_s _ T d y HM.out.1 HM.out.2.1 (fun i hi => HD.out i (by have := HM.out; omega)) (fun j hj => HZ2.out j (by have := HM.out; omega)) w1 ((HL.out.take HM.out.1 HM.out.2.2).chg C)).mono ?_
        rintro e w2 ⟨g, hg, rfl, S, k⟩
        replace C := C.trans1 k
        clear k hg
        have LC := S.ls (by have := HM.out; omega) (fun j _ => cc_r d y T j) (Nat.le_refl _)
        go_wp2_with fail
        refine (strays_s _ _ T (nT (cc d y T)) (by have := HM.out; omega) N d y HN.out HD.out w2 LC (HL.out.chg C)).mono ?_
        rintro e w3 ⟨r, rfl, O, k⟩
        replace C := C.trans1 k
        obtain ⟨pr, cr, rfl⟩ := O.form
        obtain ⟨n, hn⟩ : ∃ n, (stL (nT (cc d y T)) T d y N).length = n := ⟨_, rfl⟩
        rw [hn]
        have HB3 : Hid (B = (decide (n = 0), 0)) := by show B = _; rw [HB2.out, hn]
        clear k LC O S hn HB2
        by_cases hs : n = 0
        · subst hs
          go_wp2_with fail
          go_ret2
          exact ⟨by rw [HB3.out]; rfl, C⟩
        · have hs' : ¬ (n : Int) = 0 := by omega
          have hq : ((n : Int) == 0) = false := by simp; omega
          have HB4 : Hid (B = (false, 0)) := by show B = _; rw [HB3.out, decide_eq_false hs]
          go_wp2_with fail
          go_ret2
          exact ⟨by rw [HB4.out]; rfl, C⟩
    · have HB2 : Hid (B = (false, idR d N)) := by
        show B = _
        rw [← HB.out]
        unfold csR
        rw [if_pos h1, if_neg h0]
      obtain ⟨E, hE⟩ : ∃ E, idR d N = E := ⟨_, rfl⟩
      rw [hE] at h0 HB2 ⊢
      clear HB HK hE HZ
      go_wp2_with fail
      go_ret2
      exact ⟨by rw [HB2.out]; rfl, k1⟩
  · have ho := okI_f h1
    have HB2 : Hid (B = (false, 7)) := by
      show B = _
      rw [← HB.out]
      unfold csR
      rw [if_neg h1]
    clear HB
    go_enter Tryz.func30, Tryz.ntmps30
    go_wp2_with (go_at_call 81; refine (isThreshold_s _ _).mono ?_; rintro e w' ⟨rfl, rfl⟩; rw [ho])
    go_ret2
    exact ⟨by rw [HB2.out]; rfl, Chg.refl _ []⟩
end Go.Proofs.YtemjpibmefggnaaGreat
