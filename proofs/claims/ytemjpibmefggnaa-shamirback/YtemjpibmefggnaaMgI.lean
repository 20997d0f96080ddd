/- Joined: ShCo, ShCn, ShR1. -/
import Derived.Test.YtemjpibmefggnaaSh7
import Derived.Test.YtemjpibmefggnaaSh8
import Derived.Test.YtemjpibmefggnaaAddsWalk
import Derived.Test.YtemjpibmefggnaaMgD
import Derived.Test.YtemjpibmefggnaaMgC
import Derived.Test.YtemjpibmefggnaaRBack
/- shamir.Consistent. -/
set_option linter.unusedVariables false
set_option linter.unusedSimpArgs false
set_option linter.unnecessarySimpa false
namespace Go.Proofs.Ytemjpibmefggnaa
open Go.RowKit N

/-- What Consistent answers. -/
def csR (d y : Nat → Int) (N : Nat) (t : Int) : Bool × Int :=
  if 1 ≤ t ∧ t ≤ 255 then (if idR d N = 0 then (decide ((stL (nT (cc d y (min t.toNat N))) (min t.toNat N) d y N).length = 0), 0) else (false, idR d N)) else (false, 7)
set_option maxHeartbeats 16000000 in
set_option maxRecDepth 100000 in
theorem Consistent_s (v : Value) (N : Nat) (d y : Nat → Int) (hN : N ≤ 4611686018427387904) (t : Int) (hz : ∀ j, idR d N = 0 → j < N → ¬ zv d j = 0) (w : World) (hL : Hl w v N d y) :
    Calls Try.prog 10 #[v, .int .i64 t] w fun e w' => e = .returned (.tuple #[.bool (csR d y N t).1, .int .i64 (csR d y N t).2]) ∧ Chg w w' [] := by
  have hK := checkShares_s v N d y hN
  have HL : Hid (Hl w v N d y) := hL
  have HZ : Hid (∀ j, idR d N = 0 → j < N → ¬ zv d j = 0) := hz
  obtain ⟨p, cp, rfl, _⟩ := hL.1.form
  have HK : Hid (∀ w', Hl w' (.slice p N cp) N d y → Calls Try.prog 19 #[.slice p N cp] w' fun e w'' => e = .returned (.int .i64 (idR d N)) ∧ Chg w' w'' []) := hK
  obtain ⟨B, hB⟩ : ∃ B, csR d y N t = B := ⟨_, rfl⟩
  have HB : Hid (csR d y N t = B) := hB
  rw [hB]
  clear hL hz hK hN hB
  by_cases h1 : 1 ≤ t ∧ t ≤ 255
  · have ho := okI_t h1
    go_enter Try.func10, Try.ntmps10
    go_wp2_with (go_at_call 23; refine (isThreshold_s _ _).mono ?_; rintro e w' ⟨rfl, rfl⟩; rw [ho])
    refine (HK.out _ HL.out).mono ?_
    rintro e w1 ⟨rfl, k1⟩
    by_cases h0 : idR d N = 0
    · obtain ⟨T, rfl⟩ : ∃ T : Nat, t = (T : Int) := ⟨t.toNat, by omega⟩
      have hD := idE_zero (idR_zero h0).1
      have hNN := idE_len (idR_zero h0).1
      have hN0 := (idR_zero h0).2
      obtain ⟨m, hm⟩ : ∃ m, min T N = m := ⟨_, rfl⟩
      have HM : Hid (0 < m ∧ m ≤ 255 ∧ m ≤ N) := by show 0 < m ∧ m ≤ 255 ∧ m ≤ N; omega
      have hm1 : (m : Int) ≤ (N : Int) := by omega
      have hm0 : (0 : Int) ≤ (m : Int) := by omega
      have hcap : (m : Int) ≤ (cp : Int) := by
        rcases HL.out.1.2 with ⟨h1, _⟩ | ⟨g, o, cap, e, h1, _⟩
        · omega
        · simp only [Value.slice.injEq] at e
          obtain ⟨_, _, rfl⟩ := e
          omega
      have HN : Hid (N ≤ 255) := hNN
      have HD : Hid (∀ i, i < N → 1 ≤ d i ∧ d i ≤ 255) := hD.1
      have HZ2 : Hid (∀ j, j < N → ¬ zv d j = 0) := fun j hj => HZ.out j h0 hj
      have HB2 : Hid (B = (decide ((stL (nT (cc d y m)) m d y N).length = 0), 0)) := by
        show B = _
        rw [← HB.out]
        unfold csR
        rw [if_pos h1, if_pos h0, Int.toNat_natCast, hm]
      rw [h0]
      have C := k1
      clear h0 hD hNN hN0 k1 h1 HB HZ
      by_cases hNT : N < T
      · have hNI : (N : Int) < (T : Int) := by omega
        obtain rfl : N = m := by omega
        clear hm hNT
        go_wp2_with fail
        refine (throughShares_s _ N d y HM.out.1 HM.out.2.1 (fun i hi => HD.out i (by have := HM.out; omega)) (fun j hj => HZ2.out j (by have := HM.out; omega)) w1 ((HL.out.take HM.out.1 HM.out.2.2).chg C)).mono ?_
        rintro e w2 ⟨g, hg, rfl, S, k⟩
        replace C := C.trans1 k
        clear k hg
        have LC := S.ls (by have := HM.out; omega) (fun j _ => cc_r d y N j) (Nat.le_refl _)
        go_wp2_with fail
        refine (strays_s _ _ N (nT (cc d y N)) (by have := HM.out; omega) N d y HN.out HD.out w2 LC (HL.out.chg C)).mono ?_
        rintro e w3 ⟨r, rfl, O, k⟩
        replace C := C.trans1 k
        obtain ⟨pr, cr, rfl⟩ := O.form
        obtain ⟨n, hn⟩ : ∃ n, (stL (nT (cc d y N)) N d y N).length = n := ⟨_, rfl⟩
        rw [hn]
        have HB3 : Hid (B = (decide (n = 0), 0)) := by show B = _; rw [HB2.out, hn]
        clear k LC O S hn HB2
        by_cases hs : n = 0
        · subst hs
          go_wp2_with fail
          go_ret2
          exact ⟨by rw [HB3.out]; rfl, C⟩
        · have hs' : ¬ (n : Int) = 0 := by omega
          have hq : ((n : Int) == 0) = false := by simp; omega
          have HB4 : Hid (B = (false, 0)) := by show B = _; rw [HB3.out, decide_eq_false hs]
          go_wp2_with fail
          go_ret2
          exact ⟨by rw [HB4.out]; rfl, C⟩
      · have hNI : ¬ (N : Int) < (T : Int) := by omega
        obtain rfl : T = m := by omega
        clear hm hNT
        go_wp2_with fail
        refine (throughShares_s _ T d y HM.out.1 HM.out.2.1 (fun i hi => HD.out i (by have := HM.out; omega)) (fun j hj => HZ2.out j (by have := HM.out; omega)) w1 ((HL.out.take HM.out.1 HM.out.2.2).chg C)).mono ?_
        rintro e w2 ⟨g, hg, rfl, S, k⟩
        replace C := C.trans1 k
        clear k hg
        have LC := S.ls (by have := HM.out; omega) (fun j _ => cc_r d y T j) (Nat.le_refl _)
        go_wp2_with fail
        refine (strays_s _ _ T (nT (cc d y T)) (by have := HM.out; omega) N d y HN.out HD.out w2 LC (HL.out.chg C)).mono ?_
        rintro e w3 ⟨r, rfl, O, k⟩
        replace C := C.trans1 k
        obtain ⟨pr, cr, rfl⟩ := O.form
        obtain ⟨n, hn⟩ : ∃ n, (stL (nT (cc d y T)) T d y N).length = n := ⟨_, rfl⟩
        rw [hn]
        have HB3 : Hid (B = (decide (n = 0), 0)) := by show B = _; rw [HB2.out, hn]
        clear k LC O S hn HB2
        by_cases hs : n = 0
        · subst hs
          go_wp2_with fail
          go_ret2
          exact ⟨by rw [HB3.out]; rfl, C⟩
        · have hs' : ¬ (n : Int) = 0 := by omega
          have hq : ((n : Int) == 0) = false := by simp; omega
          have HB4 : Hid (B = (false, 0)) := by show B = _; rw [HB3.out, decide_eq_false hs]
          go_wp2_with fail
          go_ret2
          exact ⟨by rw [HB4.out]; rfl, C⟩
    · have HB2 : Hid (B = (false, idR d N)) := by
        show B = _
        rw [← HB.out]
        unfold csR
        rw [if_pos h1, if_neg h0]
      obtain ⟨E, hE⟩ : ∃ E, idR d N = E := ⟨_, rfl⟩
      rw [hE] at h0 HB2 ⊢
      clear HB HK hE HZ
      go_wp2_with fail
      go_ret2
      exact ⟨by rw [HB2.out]; rfl, k1⟩
  · have ho := okI_f h1
    have HB2 : Hid (B = (false, 7)) := by
      show B = _
      rw [← HB.out]
      unfold csR
      rw [if_neg h1]
    clear HB
    go_enter Try.func10, Try.ntmps10
    go_wp2_with (go_at_call 23; refine (isThreshold_s _ _).mono ?_; rintro e w' ⟨rfl, rfl⟩; rw [ho])
    go_ret2
    exact ⟨by rw [HB2.out]; rfl, Chg.refl _ []⟩
end Go.Proofs.Ytemjpibmefggnaa

/- rimelaw07.canon. -/
set_option linter.unusedVariables false
set_option linter.unusedSimpArgs false
set_option linter.unnecessarySimpa false
namespace Go.Proofs.Ytemjpibmefggnaa
open Go.RowKit N

/-- The first k, reduced. -/
def cnL (f : Nat → Nat) (k : Nat) : List Int := (List.range k).map fun j => ad ((f j : Nat) : Int) 0
theorem cnL_len (f : Nat → Nat) (k : Nat) : (cnL f k).length = k := by simp [cnL]
theorem cnL_s (f : Nat → Nat) (k : Nat) : cnL f (k + 1) = cnL f k ++ [ad ((f k : Nat) : Int) 0] := by simp [cnL, List.range_succ]
theorem cnL_get (f : Nat → Nat) (k j : Nat) (h : j < k) : (cnL f k).getD j 0 = ad ((f j : Nat) : Int) 0 := by simp [cnL, List.getD_eq_getElem?_getD, h]
theorem append_os {w : World} {ops : Array Oper} {rest : List Oper} {o : Oper} {a : Act} {Q : Exit → Act → World → Prop} (hgd : o.guard = none) (so xo : Operand)
    (ho : o.op = .call { callee := .builtin .append, args := #[so, xo], argTypes := #[22, 22] })
    (base : Nat) (v : Value) (gx : Nat) (l : List Int) (x : Int) (hs : a.eval so = v) (hxe : a.eval xo = .slice (some ⟨gx, 0, none⟩) 1 1) (hown : Os w base v l) (hx : Blk w gx (feC x) 25) (hl : l.length ≤ 2000000) (hbase : base ≤ w.heap.size)
    (h : ∀ v' w', Os w' base v' (l ++ [x]) → Chg w w' (ob v) → wpList Try.prog ops Q rest (a.put o.dst v') w') : wpList Try.prog ops Q (o :: rest) a w :=
  wpList_plain hgd fun _ hK => wp_append_os so xo ho base v gx l x hs hxe hown hx hl hbase fun v' w' q1 q2 => hK _ _ (h v' w' q1 q2)
set_option maxHeartbeats 8000000 in
set_option maxRecDepth 100000 in
theorem canon_s (v : Value) (N : Nat) (f : Nat → Nat) (hN : N ≤ 2000000) (w : World) (hL : Ls w v N f) :
    Calls Try.prog 11 #[v] w fun e w' => ∃ r, e = .returned r ∧ Os w' w.heap.size r (cnL f N) ∧ Chg w w' [] := by
  have HRF : Hid (∀ i, i < N → R256 ((f i : Nat) : Int)) := fun i hi => hL.r256 hi
  obtain ⟨p, cp, rfl, hp⟩ := hL.range
  have HP : Hid (∀ i, i < N → ∃ g o, p = some ⟨g, o, none⟩ ∧ g < w.heap.size ∧ w.rangeAt g (o + i * 32) (feL (f i : Nat))) := hp
  have HN : Hid (N ≤ 2000000) := hN
  obtain ⟨ie, hie, hiz, his, hib⟩ := scRowL
  have O0 : Os w w.heap.size (.slice none 0 0) (cnL f 0) := OwnR.nil _ _ _ _ _
  clear hp hL hN
  go_enter Try.func11, Try.ntmps11
  go_wp2_with fail
  go_loopw [3, 4] (fun t3 t wr => ∃ i : Nat, i ≤ N ∧ t = .int .i64 (i : Int) ∧ Os wr w.heap.size t3 (cnL f i) ∧ Chg w wr []) (fun _ t _ => (N - intOf t).toNat)
  case atStart => exact ⟨0, Nat.zero_le _, rfl, O0, Chg.refl w []⟩
  case round =>
    clear O0
    rename_i u3 u4
    obtain ⟨i, hi, rfl, O, C⟩ := hrel
    by_cases h : i < N
    · have hI : (i : Int) < (N : Int) := by omega
      have hI0 : (0 : Int) ≤ (i : Int) := by omega
      have e1 : IntKind.i64.wrap ((i : Int) + 1) = (i : Int) + 1 := by have := HN.out; rw [IntKind.wrap_i64]; omega
      have HMs : Hid _ := mN N i h
      have HI1 : Hid (i + 1 ≤ N) := h
      obtain ⟨g, o, rfl, hg, hF⟩ := HP.out i h
      have hF' := rangeAt_chg hF hg C (by simp)
      have HR : Hid (R256 ((f i : Nat) : Int)) := HRF.out i h
      have HOB : Hid (∀ i, i ∈ ob u3 → w.heap.size ≤ i) := fun i hi => (ob_own O i hi).1
      have HCz : Hid (w.heap.size ≤ wr.heap.size) := C.size
      obtain ⟨X, hX⟩ : ∃ X, ad ((f i : Nat) : Int) 0 = X := ⟨_, rfl⟩
      have HX : Hid (ad ((f i : Nat) : Int) 0 = X) := hX
      have HS : Hid (cnL f (i + 1) = cnL f i ++ [X]) := by show _ = _; rw [cnL_s, hX]
      clear hF hg h hi hX
      go_wp2_with (first
        | (with_reducible refine load_sc ?_ (.tmp 14) ?_ g (o + i * 32) ((f i : Nat) : Int) ?_ hF' ?_
           · rfl
           · rfl
           · rfl)
        | (refine gl_build (by rfl) 25 #[] rfl (feC 0) (by kernel_rfl) ?_))
      refine (Add_q _ 0 HR.out r256_c0 _).mono ?_
      rintro e w1 ⟨rfl, k1⟩
      rw [HX.out]
      go_wp2_with (first
        | (with_reducible refine bslice_w ?_ 22 25 (.tmp 17) ?_ (fe X) ?_ (feC X) ie (.agg z32) Try.underlying22 hie hiz 32 his (by omega) (by omega) (fill_sc _) ?_
           · rfl
           · rfl
           · rfl
           intro gx w2 hgx Bg k2)
        | (with_reducible refine append_os ?_ (.tmp 11) (.tmp 18) ?_ w.heap.size u3 gx (cnL f i) X ?_ ?_ ((O.chg k1).chg k2) Bg (by rw [cnL_len]; have := HN.out; have := HI1.out; omega) (by have := HCz.out; have := k1.size; have := k2.size; omega) ?_
           · rfl
           · rfl
           · rfl
           · rfl
           intro v7 w7 O7 k7))
      have C7 : Chg w w7 [] := ((C.trans1 k1).trans1 k2).trans k7 (fun i hi => Or.inr (HOB.out i hi))
      clear k1 k2 k7 O C Bg hgx hF'
      go_roundw
      case rel => exact ⟨i + 1, HI1.out, by go_num, by rw [HS.out]; exact O7, C7⟩
      case measure => exact HMs.out
    · obtain rfl : i = N := by omega
      have hI : ¬ (i : Int) < (i : Int) := by omega
      go_wp2_with fail
      go_ret
      exact ⟨_, rfl, O, C⟩
end Go.Proofs.Ytemjpibmefggnaa

/- rimeref07.Place, Eval, At, IDs. -/
set_option linter.unusedVariables false
set_option linter.unusedSimpArgs false
set_option linter.unnecessarySimpa false
namespace Go.Proofs.Ytemjpibmefggnaa
open Go.RowKit N

theorem by8_hi8 (n i : Nat) (hn : n < 18446744073709551616) (hi : 8 ≤ i) : by8 (n : Int) i = 0 := by
  rw [by8_nat]
  have h : 256 ^ 8 ≤ 256 ^ i := Nat.pow_le_pow_right (by decide) hi
  rw [Nat.div_eq_of_lt (by omega)]
  rfl
theorem ev_step (f : Nat → Nat) (x : Int) (q N : Nat) (h : q < N) : ma (ev f x (q + 1) (N - (q + 1))) x ((f q : Nat) : Int) = ev f x q (N - q) := by
  obtain ⟨m, hm⟩ : ∃ m, N - q = m + 1 := ⟨N - q - 1, by omega⟩
  rw [show N - (q + 1) = m by omega, hm]; rfl
theorem z32_ev (f : Nat → Nat) (x : Int) (k : Nat) : z32 = feC (ev f x k 0) := by
  have h : z32 = feC 0 := by kernel_rfl
  exact h
theorem idE_pre {f : Nat → Int} {k N : Nat} {e : Int} (hk : k ≤ N) (h : idE f k = e) (he : ¬ e = 0) (hN : ¬ N = 0) : idR f N = e := by
  unfold idR; rw [if_neg hN, idE_stays f (k := k) (by rw [h]; exact he) N hk, h]
theorem kn_false {f : Nat → Int} {i : Nat} {n : Nat} (hn : f i = (n : Int)) (h : ∀ j, j < i → ¬ f j = f i) : kn f i n = false := by
  unfold kn; rw [List.any_eq_false]; intro j hj; have := h j (List.mem_range.1 hj); rw [hn] at this; simpa using this
theorem kn_true {f : Nat → Int} {i k : Nat} {n : Nat} (hn : f i = (n : Int)) (hk : k < i) (h : f k = f i) : kn f i n = true := by
  unfold kn; rw [List.any_eq_true]; exact ⟨k, List.mem_range.2 hk, by rw [h, hn]; simp⟩
set_option maxHeartbeats 8000000 in
set_option maxRecDepth 100000 in
theorem IDs_r (v : Value) (N : Nat) (f : Nat → Int) (hN : N ≤ 4611686018427387904) (w : World) (hL : Il w v N f) :
    Calls Try.prog 7 #[v] w fun e w' => e = .returned (.int .i64 (idR f N)) ∧ Chg w w' [] := by
  obtain ⟨p, cp, rfl, hp⟩ := hL.form
  have HN : Hid (N ≤ 4611686018427387904) := hN
  have HP : Hid (∀ i, i < N → ∃ g o, p = some ⟨g, o, none⟩ ∧ g < w.heap.size ∧ w.cell? ⟨g, o + i, none⟩ = some (.int .i64 (f i))) := hp
  clear hp hL hN
  go_enter Try.func7, Try.ntmps7
  by_cases hZ : N = 0
  · subst hZ
    go_wp2_with fail
    go_ret
    exact ⟨rfl, Chg.refl w []⟩
  have hz : ¬ (N : Int) = 0 := by omega
  have HZ : Hid (¬ N = 0) := hZ
  clear hZ
  go_wp2_with fail
  go_loopw [3] (fun t wr => ∃ i : Nat, i ≤ N ∧ t = .int .i64 (i : Int) ∧ idE f i = 0 ∧ Chg w wr []) (fun t _ => (N - intOf t).toNat)
  case atStart => exact ⟨0, Nat.zero_le _, rfl, rfl, Chg.refl w []⟩
  case round =>
    obtain ⟨i, hi, rfl, hE, C⟩ := hrel
    by_cases h : i < N
    · have hI : (i : Int) < (N : Int) := by omega
      have hI0 : (0 : Int) ≤ (i : Int) := by omega
      have e1 : IntKind.i64.wrap ((i : Int) + 1) = (i : Int) + 1 := by have := HN.out; rw [IntKind.wrap_i64]; omega
      have HMs : Hid _ := mN N i h
      have HIN : Hid (i + 1 ≤ N) := h
      have HE : Hid (idE f i = 0) := hE
      obtain ⟨g, o, rfl, hg, hc⟩ := HP.out i h
      have HPg : Hid (∀ j, j < N → w.cell? ⟨g, o + j, none⟩ = some (.int .i64 (f j))) := fun j hj => by
        obtain ⟨g', o', e, _, q⟩ := HP.out j hj
        simp only [Option.some.injEq, Addr.mk.injEq, and_true] at e
        obtain ⟨rfl, rfl⟩ := e
        exact q
      have HGw : Hid (g < w.heap.size) := hg
      have hc' := cell_chg hc hg C (by simp)
      clear h hi hE hc hg HP
      by_cases h1 : 1 ≤ f i
      · by_cases h2 : f i ≤ 255
        · obtain ⟨n, hn⟩ := Int.eq_ofNat_of_zero_le (show 0 ≤ f i by omega)
          have HN1 : Hid (f i = (n : Int)) := hn
          have HB : Hid (1 ≤ f i ∧ f i ≤ 255) := ⟨h1, h2⟩
          clear hn
          go_wp2_with fail
          clear h1 h2 hc'
          go_loopw [4] (fun t wr => ∃ k : Nat, k ≤ i ∧ t = .int .i64 (k : Int) ∧ (∀ j, j < k → ¬ f j = f i) ∧ Chg w wr []) (fun t _ => (i - intOf t).toNat)
          case atStart => exact ⟨0, Nat.zero_le _, rfl, fun j hj => by omega, C⟩
          case round =>
            clear C
            obtain ⟨k, hk, rfl, hK, C⟩ := hrel
            by_cases h : k < i
            · have hI3 : (k : Int) < (i : Int) := by omega
              have hI4 : (0 : Int) ≤ (k : Int) := by omega
              have hI5 : (k : Int) < (N : Int) := by omega
              have e2 : IntKind.i64.wrap ((k : Int) + 1) = (k : Int) + 1 := by have := HN.out; have := HIN.out; rw [IntKind.wrap_i64]; omega
              have HMk : Hid _ := mN i k h
              have HKi : Hid (k + 1 ≤ i) := h
              have HK : Hid (wr.cell? ⟨g, o + k, none⟩ = some (.int .i64 (f k))) := cell_chg (HPg.out k (by have := HIN.out; omega)) HGw.out C (by simp)
              have HI : Hid (wr.cell? ⟨g, o + i, none⟩ = some (.int .i64 (f i))) := cell_chg (HPg.out i (by have := HIN.out; omega)) HGw.out C (by simp)
              have HGl : Hid (g < wr.heap.size) := Nat.lt_of_lt_of_le HGw.out C.size
              by_cases hq : f k = f i
              · have HE5 : Hid (idR f N = 5) := idE_pre HIN.out (idE_twice HE.out HB.out HN1.out (kn_true HN1.out HKi.out hq)) (by decide) HZ.out
                clear h hk hK
                go_wp2_with fail
                refine wp_region_held_drew (S := fun w' => Chg wr w' []) (by kernel_rfl) ((Chg.refl wr _).drew) (fun hHeld => ?_)
                refine take_val (v := ?_) 0 (some 31) rfl (by kernel_rfl) (by kernel_rfl) (by kernel_rfl) (fun _ _ _ h => h) rfl rfl (fun w hSw => ?_) hHeld ?_
                rotate_left
                · (go_simp; try with_reducible rfl)
                try simp only [Act.put, List.setIfInBounds_toArray, List.set_cons_zero, List.set_cons_succ]
                refine take_val (v := ?_) 1 (some 32) rfl (by kernel_rfl) (by kernel_rfl) (by kernel_rfl) (fun _ _ _ h => h) rfl rfl (fun w hSw => ?_) hHeld ?_
                rotate_left
                · (go_simp; try with_reducible rfl)
                try simp only [Act.put, List.setIfInBounds_toArray, List.set_cons_zero, List.set_cons_succ]
                refine take_val (v := ?_) 2 (some 33) rfl (by kernel_rfl) (by kernel_rfl) (by kernel_rfl) (fun _ _ _ h => h) rfl rfl (fun w hSw => ?_) hHeld ?_
                rotate_left
                · (go_simp; try with_reducible rfl)
                try simp only [Act.put, List.setIfInBounds_toArray, List.set_cons_zero, List.set_cons_succ]
                refine take_val (v := (.int .i64 (f k))) 3 (some 34) rfl (by kernel_rfl) (by kernel_rfl) (by kernel_rfl) (fun _ _ _ h => h) rfl rfl (fun w hSw => ?_) hHeld ?_
                · have cx := cell_chg HK.out HGl.out hSw (by simp)
                  (go_simp; try with_reducible rfl)
                try simp only [Act.put, List.setIfInBounds_toArray, List.set_cons_zero, List.set_cons_succ]
                refine take_val (v := ?_) 4 (some 35) rfl (by kernel_rfl) (by kernel_rfl) (by kernel_rfl) (fun _ _ _ h => h) rfl rfl (fun w hSw => ?_) hHeld ?_
                rotate_left
                · (go_simp; try with_reducible rfl)
                try simp only [Act.put, List.setIfInBounds_toArray, List.set_cons_zero, List.set_cons_succ]
                refine take_val (v := ?_) 5 (some 36) rfl (by kernel_rfl) (by kernel_rfl) (by kernel_rfl) (fun _ _ _ h => h) rfl rfl (fun w hSw => ?_) hHeld ?_
                rotate_left
                · (go_simp; try with_reducible rfl)
                try simp only [Act.put, List.setIfInBounds_toArray, List.set_cons_zero, List.set_cons_succ]
                refine take_val (v := ?_) 6 (some 37) rfl (by kernel_rfl) (by kernel_rfl) (by kernel_rfl) (fun _ _ _ h => h) rfl rfl (fun w hSw => ?_) hHeld ?_
                rotate_left
                · (go_simp; try with_reducible rfl)
                try simp only [Act.put, List.setIfInBounds_toArray, List.set_cons_zero, List.set_cons_succ]
                refine take_val (v := (.int .i64 (f i))) 7 (some 38) rfl (by kernel_rfl) (by kernel_rfl) (by kernel_rfl) (fun _ _ _ h => h) rfl rfl (fun w hSw => ?_) hHeld ?_
                · have cx := cell_chg HI.out HGl.out hSw (by simp)
                  (go_simp; try with_reducible rfl)
                try simp only [Act.put, List.setIfInBounds_toArray, List.set_cons_zero, List.set_cons_succ]
                refine take_val (v := ?_) 8 (some 39) rfl (by kernel_rfl) (by kernel_rfl) (by kernel_rfl) (fun _ _ _ h => h) rfl rfl (fun w hSw => ?_) hHeld ?_
                rotate_left
                · (go_simp; try with_reducible rfl)
                try simp only [Act.put, List.setIfInBounds_toArray, List.set_cons_zero, List.set_cons_succ]
                refine wpAnyH_done (by kernel_rfl) ?_ _
                replace C := C.trans1 hHeld
                clear hHeld
                go_wp2_with fail
                go_ret
                exact ⟨by rw [HE5.out]; rfl, C⟩
              · have HNk : Hid (∀ j, j < k + 1 → ¬ f j = f i) := fun j hj => by
                  by_cases h9 : j = k
                  · rw [h9]; exact hq
                  · exact hK j (by omega)
                clear h hk hK
                go_wp2_with fail
                refine wp_region_held_drew (S := fun w' => Chg wr w' []) (by kernel_rfl) ((Chg.refl wr _).drew) (fun hHeld => ?_)
                refine take_val (v := ?_) 0 (some 31) rfl (by kernel_rfl) (by kernel_rfl) (by kernel_rfl) (fun _ _ _ h => h) rfl rfl (fun w hSw => ?_) hHeld ?_
                rotate_left
                · (go_simp; try with_reducible rfl)
                try simp only [Act.put, List.setIfInBounds_toArray, List.set_cons_zero, List.set_cons_succ]
                refine take_val (v := ?_) 1 (some 32) rfl (by kernel_rfl) (by kernel_rfl) (by kernel_rfl) (fun _ _ _ h => h) rfl rfl (fun w hSw => ?_) hHeld ?_
                rotate_left
                · (go_simp; try with_reducible rfl)
                try simp only [Act.put, List.setIfInBounds_toArray, List.set_cons_zero, List.set_cons_succ]
                refine take_val (v := ?_) 2 (some 33) rfl (by kernel_rfl) (by kernel_rfl) (by kernel_rfl) (fun _ _ _ h => h) rfl rfl (fun w hSw => ?_) hHeld ?_
                rotate_left
                · (go_simp; try with_reducible rfl)
                try simp only [Act.put, List.setIfInBounds_toArray, List.set_cons_zero, List.set_cons_succ]
                refine take_val (v := (.int .i64 (f k))) 3 (some 34) rfl (by kernel_rfl) (by kernel_rfl) (by kernel_rfl) (fun _ _ _ h => h) rfl rfl (fun w hSw => ?_) hHeld ?_
                · have cx := cell_chg HK.out HGl.out hSw (by simp)
                  (go_simp; try with_reducible rfl)
                try simp only [Act.put, List.setIfInBounds_toArray, List.set_cons_zero, List.set_cons_succ]
                refine take_val (v := ?_) 4 (some 35) rfl (by kernel_rfl) (by kernel_rfl) (by kernel_rfl) (fun _ _ _ h => h) rfl rfl (fun w hSw => ?_) hHeld ?_
                rotate_left
                · (go_simp; try with_reducible rfl)
                try simp only [Act.put, List.setIfInBounds_toArray, List.set_cons_zero, List.set_cons_succ]
                refine take_val (v := ?_) 5 (some 36) rfl (by kernel_rfl) (by kernel_rfl) (by kernel_rfl) (fun _ _ _ h => h) rfl rfl (fun w hSw => ?_) hHeld ?_
                rotate_left
                · (go_simp; try with_reducible rfl)
                try simp only [Act.put, List.setIfInBounds_toArray, List.set_cons_zero, List.set_cons_succ]
                refine take_val (v := ?_) 6 (some 37) rfl (by kernel_rfl) (by kernel_rfl) (by kernel_rfl) (fun _ _ _ h => h) rfl rfl (fun w hSw => ?_) hHeld ?_
                rotate_left
                · (go_simp; try with_reducible rfl)
                try simp only [Act.put, List.setIfInBounds_toArray, List.set_cons_zero, List.set_cons_succ]
                refine take_val (v := (.int .i64 (f i))) 7 (some 38) rfl (by kernel_rfl) (by kernel_rfl) (by kernel_rfl) (fun _ _ _ h => h) rfl rfl (fun w hSw => ?_) hHeld ?_
                · have cx := cell_chg HI.out HGl.out hSw (by simp)
                  (go_simp; try with_reducible rfl)
                try simp only [Act.put, List.setIfInBounds_toArray, List.set_cons_zero, List.set_cons_succ]
                refine take_val (v := ?_) 8 (some 39) rfl (by kernel_rfl) (by kernel_rfl) (by kernel_rfl) (fun _ _ _ h => h) rfl rfl (fun w hSw => ?_) hHeld ?_
                rotate_left
                · (go_simp; try with_reducible rfl)
                try simp only [Act.put, List.setIfInBounds_toArray, List.set_cons_zero, List.set_cons_succ]
                refine wpAnyH_done (by kernel_rfl) ?_ _
                replace C := C.trans1 hHeld
                clear hHeld
                go_wp2_with fail
                go_roundw
                case rel => exact ⟨k + 1, HKi.out, by go_num, HNk.out, C⟩
                case measure => exact HMk.out
            · obtain rfl : k = i := by omega
              have hI3 : ¬ (k : Int) < (k : Int) := by omega
              have HE0 : Hid (idE f (k + 1) = 0) := idE_ok HE.out HB.out HN1.out (kn_false HN1.out hK)
              clear h hk hK
              go_wp2_with fail
              exact ⟨⟨k + 1, HIN.out, by omega, HE0.out⟩, by have := HMs.out; omega⟩
        · have HE4 : Hid (idR f N = 4) := idE_pre HIN.out (idE_bad HE.out (fun h => h2 h.2)) (by decide) HZ.out
          go_wp2_with fail
          go_ret
          exact ⟨by rw [HE4.out]; rfl, C⟩
      · have HE4 : Hid (idR f N = 4) := idE_pre HIN.out (idE_bad HE.out (fun h => h1 h.1)) (by decide) HZ.out
        go_wp2_with fail
        go_ret
        exact ⟨by rw [HE4.out]; rfl, C⟩
    · obtain rfl : i = N := by omega
      have hI : ¬ (i : Int) < (i : Int) := by omega
      go_wp2_with fail
      go_ret
      exact ⟨by unfold idR; rw [if_neg HZ.out, hE]; rfl, C⟩
end Go.Proofs.Ytemjpibmefggnaa
