/- rimeref07.Correct. -/
import Derived.Test.YtoafcaieifjoiaaGreatGsL
import Derived.Test.YtoafcaieifjoiaaGreatGsN
import Derived.Test.YtoafcaieifjoiaaGreatMgT
import Derived.Test.YtoafcaieifjoiaaGreatMgR
import Derived.Test.YtoafcaieifjoiaaGreatMgS
set_option linter.unusedVariables false
set_option linter.unusedSimpArgs false
set_option linter.unnecessarySimpa false
namespace Go.Proofs.YtoafcaieifjoiaaGreat
open Go.RowKit N

theorem append_os2G {w : World} {ops : Array Oper} {rest : List Oper} {o : Oper} {a : Act} {Q : Exit → Act → World → Prop} (hgd : o.guard = none) (so xo : Operand)
    (ho : o.op = .call { callee := .builtin .append, args := #[so, xo], argTypes := #[22, 22] })
    (base : Nat) (v : Value) (gx : Nat) (l : List Int) (x : Int) (hs : a.eval so = v) (hxe : a.eval xo = .slice (some ⟨gx, 0, none⟩) 1 1) (hown : Os w base v l) (hx : Blk w gx (feC x) 24) (hl : l.length ≤ 2000000) (hbase : base ≤ w.heap.size)
    (h : ∀ v' w', Os w' base v' (l ++ [x]) → Chg w w' (ob v) → (∀ k, k ∈ ob v' → k ∈ ob v ∨ w.heap.size ≤ k) → wpList Tryz.prog ops Q rest (a.put o.dst v') w') : wpList Tryz.prog ops Q (o :: rest) a w := by
  obtain ⟨ii, hi, hz, h1, h2⟩ := scRowL
  have hR : Rl w 32 (.slice (some ⟨gx, 0, none⟩) 1 1) 1 (oS [x]) := ⟨oS_ok 1 [x], Or.inr ⟨gx, 0, 1, rfl, Nat.le_refl _, by omega, hx.lt, fun i hi => by
    obtain rfl : i = 0 := by omega
    exact (sb_one hx).range (i := 0) (by omega)⟩⟩
  refine wpList_append_r hgd so xo 22 ho 24 ii (.agg z32) 32 32 Tryz.underlying22 hi hz h1 h2 rfl (by omega) base v _ l.length 1 (oS l) (oS [x]) hs hxe hown hR (by omega) (by omega) (by omega) hbase ?_
  intro g cap w' O k hw _
  refine h _ w' ?_ k ?_
  · unfold Os
    rw [List.length_append]
    refine O.congr fun j hj => ?_
    unfold catR oS
    by_cases h : j < l.length
    · rw [if_pos h]; simp [List.getD_eq_getElem?_getD, List.getElem?_append_left h]
    · rw [if_neg h]; simp [List.getD_eq_getElem?_getD, List.getElem?_append_right (show l.length ≤ j by omega)]
  · intro q hq
    have e : q = g := by simpa [ob, Value.ownBlock] using hq
    subst e
    rcases hw with hw | hw
    · left; unfold ob; rw [hw]; simp
    · right; omega
/-- What the document's Correct answers. -/
def CrQ (d y : Nat → Int) (N : Nat) (t : Int) (base : Nat) (w' : World) (r : Value) : Prop :=
  (∃ c, r = .tuple #[.slice none 0 0, .slice none 0 0, .int .i64 c] ∧ ((¬ enR d N t = 0 ∧ c = enR d N t) ∨ (enR d N t = 0 ∧ c = 72 ∧ ∀ f, ¬ (stL f t.toNat d y N).length ≤ (N - t.toNat) / 2))) ∨
  (enR d N t = 0 ∧ ∃ (g : Nat) (s : Value) (c : Nat → Int), r = .tuple #[.slice (some ⟨g, 0, none⟩) t.toNat t.toNat, s, .int .i64 0] ∧ Sb w' g t.toNat c ∧ (∀ j, RL (c j)) ∧ (stL (nT c) t.toNat d y N).length ≤ (N - t.toNat) / 2 ∧ Oi w' base s (wnt d (stB (nT c) t.toNat d y) N 255))
theorem rd0_rG (X : Nat → Int) (j : Nat) : R256 (rd0 X j) := r256_mod _
theorem zR_lcR (d y : Nat → Int) (T e : Nat) : haveI := LN_nz; zR (lcR d (rd0 y) T e) = Q.rowQ (fun s => zq LN (d s)) (fun s => zq LN (y s)) T e := by
  haveI := LN_nz
  funext i k
  unfold zR lcR Q.rowQ
  have hy : zq LN (rd0 y i) = zq LN (y i) := zq_ad0 (y i)
  split
  · exact zq_pwI _ _
  · split
    · rw [zq_ng L_LN, zq_ml L_LN, zq_pwI, hy]
    · rw [zq_ml L_LN, zq_pwI, hy]
/-- No solution: no polynomial misses few. -/
theorem cr_none {d y : Nat → Int} {N T e : Nat} (hT : 0 < T) (hno : haveI := LN_nz; ∀ v : Nat → Fin LN, ¬ Q.Sol (zR (lcR d (rd0 y) T e)) N (T + e + e) v) (f : Nat → Nat) : ¬ (stL f T d y N).length ≤ e := fun hs => by
  haveI := LN_nz
  rw [zR_lcR] at hno
  obtain ⟨u, hu⟩ := Q.ref_has (n := LN) (N := N) (T := T) (e := e) hT (fun s => zq LN (d s)) (fun s => zq LN (y s)) (fun j => zq LN ((f j : Nat) : Int)) (stB f T d y) (fun i _ hb => ev_zq.1 (by unfold stB at hb; simpa using hb)) (by rw [← st_cnt]; exact hs)
  exact hno u hu
theorem lcE_ev (u : Nat → Int) (te e : Nat) (hu : ∀ j, j < te + e → RL (u j)) (x : Int) : haveI := LN_nz; zq LN (ev (nT (lcE u te e)) x 0 (e + 1)) = Q.pe (fun j => zq LN (u (te + j))) (zq LN x) 0 e + Q.pwx (zq LN x) e := by
  haveI := LN_nz
  rw [zq_ev L_LN, Q.pe_sm]
  show Q.sm _ e + zq LN ((nT (lcE u te e) e : Nat) : Int) * Q.pwx (zq LN x) e = _
  have e1 : zq LN ((nT (lcE u te e) e : Nat) : Int) = 1 := by
    have : lcE u te e e = 1 := if_neg (Nat.lt_irrefl _)
    rw [nT_c _ _ (by rw [this]; decide), this]; exact zq_1
  rw [e1, Q.pe_sm]
  have e2 : Q.sm (fun j => zq LN ((nT (lcE u te e) j : Nat) : Int) * Q.pwx (zq LN x) j) e = Q.sm (fun j => zq LN (u (te + j)) * Q.pwx (zq LN x) j) e := Q.sm_congr fun j hj => by
    have : lcE u te e j = u (te + j) := if_pos hj
    rw [nT_c _ _ (by rw [this]; exact (hu _ (by omega)).1), this]
  rw [e2]; grind
/-- Where there is a solution. -/
theorem cr_found {d y : Nat → Int} {N T e : Nat} (h : idE d N = 0) (hN : T + e + e ≤ N) {u : Nat → Int} (hu : ∀ j, j < T + e + e → RL (u j)) (hsol : haveI := LN_nz; Q.Sol (zR (lcR d (rd0 y) T e)) N (T + e + e) (fun j => zq LN (u j))) (l : List (Int × Int)) (hl : clL (nT (lcE u (T + e) e)) (e + 1) d (rd0 y) N = l) :
    T ≤ l.length ∧ (∀ j, j < l.length → ∃ i, i < N ∧ l.getD j (0, 0) = (d i, rd0 y i)) ∧ idE (fun j => (l.getD j (0, 0)).1) T = 0 ∧
    ∀ f, (stL f T d y N).length ≤ e → stL (nT (cc (fun j => (l.getD j (0, 0)).1) (fun j => (l.getD j (0, 0)).2) T)) T d y N = stL f T d y N := by
  haveI := LN_nz
  have hev : ∀ x : Int, ev (nT (lcE u (T + e) e)) x 0 (e + 1) = 0 ↔ Q.pe (fun j => zq LN (u (T + e + j))) (zq LN x) 0 e + Q.pwx (zq LN x) e = 0 := fun x => by
    rw [← lcE_ev u (T + e) e hu x]; exact (zq_is0 L_LN (ev_rl _ _ _ _)).symm
  refine co_fin h (fun i _ => zq_ad0 (y i)) (by omega) ?_ (fun f hf i hi hne => ?_) l hl
  · refine Q.zeros_lt (n := LN) (zq_dom L_LN) (fun s => zq LN (d s)) (fun j => if j < e then zq LN (u (T + e + j)) else 1) (zq_apart h) _ (fun i _ hb => ?_) (k := e) (by omega) (by rw [if_neg (Nat.lt_irrefl _)]; exact one_ne)
    have z := (hev (d i)).1 (by simpa using hb)
    rw [Q.pe_sm]
    show Q.sm _ e + (if e < e then _ else 1) * Q.pwx (zq LN (d i)) e = 0
    rw [if_neg (Nat.lt_irrefl _)]
    rw [Q.pe_sm] at z
    have e2 : Q.sm (fun j => (if j < e then zq LN (u (T + e + j)) else 1) * Q.pwx (zq LN (d i)) j) e = Q.sm (fun j => zq LN (u (T + e + j)) * Q.pwx (zq LN (d i)) j) e := Q.sm_congr fun j hj => by rw [if_pos hj]
    rw [e2]
    rw [← z]; grind
  · rw [zR_lcR] at hsol
    exact (hev (d i)).2 (Q.ref_zero (n := LN) (zq_dom L_LN) hN (fun s => zq LN (d s)) (fun s => zq LN (y s)) (fun j => zq LN ((f j : Nat) : Int)) (fun j => zq LN (u j)) (zq_apart h) (stB f T d y) (fun i _ hb => ev_zq.1 (by unfold stB at hb; simpa using hb)) (by rw [← st_cnt]; exact hf) hsol i hi (fun e => hne (ev_zq.2 e)))
theorem wnt_st {d y : Nat → Int} {N T : Nat} {c : Nat → Int} (h : idE d N = 0) : (wnt d (stB (nT c) T d y) N 255).length = (stL (nT c) T d y N).length := by
  rw [← srt_wnt (f := nT c) (M := T) (y := y) (b := stB (nT c) T d y) (idE_zero h).1 (fun _ _ => rfl), srt_len]
def fsL (l : List (Int × Int)) : List Int := l.map Prod.fst
def snL (l : List (Int × Int)) : List Int := l.map Prod.snd
theorem os_map {w : World} {base : Nat} {v : Value} {l : List (Int × Int)} {F : Int × Int → Int} (O : Os w base v (l.map F)) {X : Nat → Int} {n : Nat} (hn : n ≤ l.length) (hX : ∀ j, j < n → F (l.getD j (0, 0)) = X j) (hr : ∀ j, j < l.length → R256 (F (l.getD j (0, 0)))) : ∃ p c, v = .slice p l.length c ∧ (0 < n → (n : Int) ≤ (c : Int) ∧ Ls w (.slice p n c) n (nT X)) := by
  have hg : ∀ j, j < l.length → (l.map F).getD j 0 = F (l.getD j (0, 0)) := fun j hj => by simp [List.getD_eq_getElem?_getD, hj]
  have q := O.ls (fun j hj => by rw [List.length_map] at hj; rw [hg j hj]; exact hr j hj)
  rw [List.length_map] at q
  rcases q.2 with ⟨h1, rfl⟩ | ⟨g, o, cap, rfl, h1, h2, h3, h4⟩
  · exact ⟨none, 0, by rw [h1], fun h0 => by omega⟩
  · refine ⟨_, cap, rfl, fun h0 => ⟨by omega, ⟨fun i hi => ?_, Or.inr ⟨g, o, cap, rfl, by omega, h2, h3, fun i hi => ?_⟩⟩⟩⟩
    · have z := q.1 i (by omega)
      simp only [hg i (show i < l.length by omega), hX i hi] at z
      exact z
    · have z := h4 i (by omega)
      simp only [hg i (show i < l.length by omega), hX i hi] at z
      exact z
set_option maxHeartbeats 64000000 in
set_option maxRecDepth 100000 in
theorem Correct_r (v : Value) (N : Nat) (d y : Nat → Int) (hN : N ≤ 4398046511000) (t : Int) (w : World) (hL : Hl w v N d y) :
    Calls Tryz.prog 35 #[v, .int .i64 t] w fun e w' => ∃ r, e = .returned r ∧ CrQ d y N t w.heap.size w' r ∧ Chg w w' [] := by
  have hK := enough_r v N d y hN t w hL
  have HL : Hid (Hl w v N d y) := hL
  have hge := feGuard
  obtain ⟨p, cp, rfl, hp⟩ := hL.1.form
  have HP : Hid (∀ i, i < N → ∃ g o, p = some ⟨g, o, none⟩ ∧ g < w.heap.size ∧ w.rangeAt g (o + i * 33) (hF d y i)) := hp
  clear hL hp
  by_cases hE : enR d N t = 0
  · obtain ⟨ht1, ht2, ht3, hid⟩ := enR_zero hE
    have hI := (idR_zero hid).1
    have HI : Hid (idE d N = 0) := hI
    have h255 := idE_len hI
    have HE : Hid (enR d N t = 0) := hE
    rw [hE] at hK
    obtain ⟨T, rfl⟩ : ∃ T : Nat, t = (T : Int) := ⟨t.toNat, by omega⟩
    obtain ⟨e, he⟩ : ∃ e, (N - T) / 2 = e := ⟨_, rfl⟩
    have HN : Hid (0 < T ∧ T ≤ N ∧ N ≤ 255 ∧ (N - T) / 2 = e ∧ T + e + e ≤ N) := ⟨by omega, by omega, h255, he, by omega⟩
    have HD : Hid (∀ i, i < N → 1 ≤ d i ∧ d i ≤ 255) := (idE_zero hI).1
    have HRd : Hid (∀ i, i < N → R256 (d i)) := fun i hi => r256_rl (id_rl (idE_zero HI.out).1 hi)
    obtain ⟨df, hdf⟩ : ∃ m : Nat, m = N - T := ⟨_, rfl⟩
    have e0 : IntKind.i64.wrap ((N : Int) - (T : Int)) = (df : Int) := by rw [IntKind.wrap_i64]; omega
    have e1 : Int.tdiv (df : Int) 2 = (e : Int) := by rw [Int.tdiv_eq_ediv_of_nonneg (by omega)]; omega
    have e2 : IntKind.i64.wrap (e : Int) = (e : Int) := by rw [IntKind.wrap_i64]; omega
    obtain ⟨ie, hie, hiz, his, _⟩ := scRowL
    obtain ⟨ii, hii, hizz, hiss, _⟩ := intRowS
    clear ht1 ht2 ht3 hid hI h255 hE he hN hdf
    go_enter Tryz.func35, Tryz.ntmps35
    go_wp2_with fail
    refine hK.mono ?_
    rintro ex w1 ⟨rfl, C⟩
    clear hK
    go_wp2_with fail
    refine (of_r _ N d y (by have := HN.out; omega) w1 (HL.out.chg C)).mono ?_
    rintro ex w2 ⟨r2, rfl, O2, k⟩
    replace C := C.trans1 k
    clear k
    go_wp2_with fail
    refine (places_r _ N d (by have := HN.out; omega) HD.out w2 O2.ilL).mono ?_
    rintro ex w3 ⟨r3, rfl, O3, k⟩
    have L3 := O3.pl HRd.out
    replace C := C.trans1 k
    clear k O2 O3
    go_wp2_with fail
    refine (values_r _ N d y (by have := HN.out; omega) w3 (HL.out.chg C)).mono ?_
    rintro ex w4 ⟨r4, rfl, O4, k⟩
    have L4 := O4.pl (fun j _ => rd0_rG y j)
    replace L3 := L3.chg0 k
    replace C := C.trans1 k
    clear k O4
    obtain ⟨px, cx, rfl, hpx⟩ := L3.range
    obtain ⟨py, cy, rfl, hpy⟩ := L4.range
    go_wp2_with fail
    --CUT0
    refine (Locate_r _ _ N T e d (rd0 y) (by have := HN.out; omega) (by have := HN.out; omega) (by have := HN.out; omega) HN.out.1 HRd.out (fun i _ => rd0_rG y i) w4 L3 L4).mono ?_
    rintro ex w6 ⟨r6, rfl, hlo, k⟩
    have HX6 : Hid (∀ i, i < N → ∃ g o, px = some ⟨g, o, none⟩ ∧ g < w6.heap.size ∧ w6.rangeAt g (o + i * 32) (feL (d i))) := fun i hi => by
      obtain ⟨g, o, a, b, c⟩ := hpx i hi
      rw [nT_c _ _ (HRd.out i hi).1] at c
      exact ⟨g, o, a, Nat.lt_of_lt_of_le b k.size, rangeAt_chg c b k (by simp)⟩
    have HY6 : Hid (∀ i, i < N → ∃ g o, py = some ⟨g, o, none⟩ ∧ g < w6.heap.size ∧ w6.rangeAt g (o + i * 32) (feL (rd0 y i))) := fun i hi => by
      obtain ⟨g, o, a, b, c⟩ := hpy i hi
      rw [nT_c _ _ (rd0_rG y i).1] at c
      exact ⟨g, o, a, Nat.lt_of_lt_of_le b k.size, rangeAt_chg c b k (by simp)⟩
    have HCz4 : Hid (w.heap.size ≤ w4.heap.size) := C.size
    replace C := C.trans1 k
    clear k L3 L4 hpx hpy
    rcases hlo with ⟨rfl, hno⟩ | ⟨s6, v6, u, rfl, O6, hu, hsol⟩
    · have HNo : Hid (∀ f, ¬ (stL f T d y N).length ≤ e) := fun f => cr_none HN.out.1 hno f
      clear hno
      go_wp2_with fail
      go_ret3
      exact ⟨_, rfl, Or.inl ⟨72, rfl, Or.inr ⟨HE.out, rfl, fun f => by rw [Int.toNat_natCast, HN.out.2.2.2.1]; exact HNo.out f⟩⟩, C⟩
    · obtain ⟨lf, hlf⟩ : ∃ lf, lcE u (T + e) e = lf := ⟨_, rfl⟩
      have hRlf : ∀ j, j < e + 1 → R256 (lf j) := fun j hj => by
        rw [← hlf]; unfold lcE
        by_cases a : j < e
        · rw [if_pos a]; exact r256_rl (hu _ (by omega))
        · rw [if_neg a]; exact r256_c1
      obtain ⟨l, hl⟩ : ∃ l, clL (nT lf) (e + 1) d (rd0 y) N = l := ⟨_, rfl⟩
      have HF := cr_found HI.out HN.out.2.2.2.2 hu hsol l (by rw [hlf]; exact hl)
      rw [hlf] at O6
      have L6 := O6.pl hRlf
      have HLo : Hid (Ls w6 v6 (e + 1) (nT lf)) := L6
      have Hl : Hid (clL (nT lf) (e + 1) d (rd0 y) N = l) := hl
      obtain ⟨pv, cv, rfl, _⟩ := L6.form
      have P0 : Os w6 w6.heap.size (.slice none 0 0) (fsL (clL (nT lf) (e + 1) d (rd0 y) 0)) := OwnR.nil _ _ _ _ _
      have Q0 : Os w6 w6.heap.size (.slice none 0 0) (snL (clL (nT lf) (e + 1) d (rd0 y) 0)) := OwnR.nil _ _ _ _ _
      have HF1 : Hid (T ≤ l.length) := HF.1
      have HF2 : Hid (∀ j, j < l.length → ∃ i, i < N ∧ l.getD j (0, 0) = (d i, rd0 y i)) := HF.2.1
      have HF3 : Hid (idE (fun j => (l.getD j (0, 0)).1) T = 0) := HF.2.2.1
      have Hls : Hid (∀ f, (stL f T d y N).length ≤ e → stL (nT (cc (fun j => (l.getD j (0, 0)).1) (fun j => (l.getD j (0, 0)).2) T)) T d y N = stL f T d y N) := HF.2.2.2
      clear HF hl hlf hRlf hu hsol O6 L6
      go_wp2_with fail
      --CUT1
      go_loopw [14, 15, 16] (fun t14 t15 t16 wr => ∃ k : Nat, k ≤ N ∧ t16 = .int .i64 (k : Int) ∧ Os wr w6.heap.size t14 (fsL (clL (nT lf) (e + 1) d (rd0 y) k)) ∧ Os wr w6.heap.size t15 (snL (clL (nT lf) (e + 1) d (rd0 y) k)) ∧ (∀ z, z ∈ ob t14 → ¬ z ∈ ob t15) ∧ Chg w6 wr []) (fun _ _ t _ => (N - intOf t).toNat)
      case atStart => exact ⟨0, Nat.zero_le _, rfl, P0, Q0, fun z hz => by simp [ob, Value.ownBlock] at hz, Chg.refl _ _⟩
      case round =>
        clear P0 Q0
        obtain ⟨k, hk, rfl, Pq, Qq, hap, D⟩ := hrel
        have HAp : Hid (∀ z, z ∈ ob u14 → ¬ z ∈ ob u15) := hap
        clear hap
        by_cases h : k < N
        · have hKi : (k : Int) < (N : Int) := by omega
          have hK0 : (0 : Int) ≤ (k : Int) := by omega
          have ek : IntKind.i64.wrap ((k : Int) + 1) = (k : Int) + 1 := by have := HN.out; rw [IntKind.wrap_i64]; omega
          have HMs : Hid _ := mN N k h
          have HK : Hid (k < N) := h
          have HRk : Hid (R256 (d k)) := HRd.out k h
          have HLn : Hid ((clL (nT lf) (e + 1) d (rd0 y) k).length ≤ k) := clL_len _ _ _ _ k
          have HST : Hid (clL (nT lf) (e + 1) d (rd0 y) (k + 1) = if ev (nT lf) (d k) 0 (e + 1) = 0 then clL (nT lf) (e + 1) d (rd0 y) k else clL (nT lf) (e + 1) d (rd0 y) k ++ [(d k, rd0 y k)]) := rfl
          obtain ⟨gx, ox, rfl, hgx, hrx⟩ := HX6.out k h
          obtain ⟨gy, oy, rfl, hgy, hry⟩ := HY6.out k h
          have HG6 : Hid (gx < w6.heap.size ∧ gy < w6.heap.size) := ⟨hgx, hgy⟩
          have HRX : Hid (w6.rangeAt gx (ox + k * 32) (feL (d k))) := hrx
          have HRY : Hid (w6.rangeAt gy (oy + k * 32) (feL (rd0 y k))) := hry
          have hFx := rangeAt_chg hrx hgx D (by simp)
          obtain ⟨V, hV⟩ : ∃ V, ev (nT lf) (d k) 0 (e + 1) = V := ⟨_, rfl⟩
          have HVR : Hid (RL V) := by show RL V; rw [← hV]; exact ev_rl _ _ _ _
          have hEv := Eval_r (.slice pv (e + 1) cv) (e + 1) (nT lf) (by have := HN.out; omega) (d k) HRk.out wr (HLo.out.chg0 D)
          rw [hV] at hEv HST
          clear h hk hgx hgy hrx hry hV
          go_wp2_with (refine load_sc rfl _ rfl gx (ox + k * 32) (d k) rfl hFx ?_)
          refine hEv.mono ?_
          rintro ex w7 ⟨rfl, k7⟩
          replace D := D.trans1 k7
          replace Pq := Pq.chg k7
          replace Qq := Qq.chg k7
          clear k7 hEv hFx
          go_wp2_with fail
          --CUT2
          by_cases hz : V = 0
          · refine (IsZero_q V (r256_rl HVR.out) true (by rw [eq0_is HVR.out]; exact decide_eq_true hz) _).mono ?_
            rintro ex w8 ⟨rfl, k8⟩
            replace D := D.trans1 k8
            replace Pq := Pq.chg k8
            replace Qq := Qq.chg k8
            have HS2 : Hid (clL (nT lf) (e + 1) d (rd0 y) (k + 1) = clL (nT lf) (e + 1) d (rd0 y) k) := by show _ = _; rw [HST.out, if_pos hz]
            clear k8 hz HST
            go_wp2_with fail
            go_roundw
            case rel => exact ⟨k + 1, HK.out, by go_num, by rw [HS2.out]; exact Pq, by rw [HS2.out]; exact Qq, HAp.out, D⟩
            case measure => exact HMs.out
          · refine (IsZero_q V (r256_rl HVR.out) false (by rw [eq0_is HVR.out]; exact decide_eq_false hz) _).mono ?_
            rintro ex w8 ⟨rfl, k8⟩
            replace D := D.trans1 k8
            replace Pq := Pq.chg k8
            replace Qq := Qq.chg k8
            have HS2 : Hid (clL (nT lf) (e + 1) d (rd0 y) (k + 1) = clL (nT lf) (e + 1) d (rd0 y) k ++ [(d k, rd0 y k)]) := by show _ = _; rw [HST.out, if_neg hz]
            have HS3 : Hid (fsL (clL (nT lf) (e + 1) d (rd0 y) k) ++ [d k] = fsL (clL (nT lf) (e + 1) d (rd0 y) (k + 1))) := by show _ = _; rw [HS2.out]; unfold fsL; rw [List.map_append]; rfl
            have HS4 : Hid (snL (clL (nT lf) (e + 1) d (rd0 y) k) ++ [rd0 y k] = snL (clL (nT lf) (e + 1) d (rd0 y) (k + 1))) := by show _ = _; rw [HS2.out]; unfold snL; rw [List.map_append]; rfl
            have hFx := rangeAt_chg HRX.out HG6.out.1 D (by simp)
            have HP14 : Hid (∀ z, z ∈ ob u14 → w6.heap.size ≤ z ∧ z < w8.heap.size) := fun z hz => ob_own Pq z hz
            have HP15 : Hid (∀ z, z ∈ ob u15 → w6.heap.size ≤ z ∧ z < w8.heap.size) := fun z hz => ob_own Qq z hz
            have HD8 : Hid (w6.heap.size ≤ w8.heap.size) := D.size
            clear k8 hz HST HS2
            go_upto_region 17 with (first
              | (with_reducible refine load_sc ?_ (.tmp 65) ?_ gx (ox + k * 32) (d k) ?_ hFx ?_
                 · rfl
                 · rfl
                 · rfl)
              | (with_reducible refine bslice_w ?_ 22 24 (.tmp 66) ?_ (fe (d k)) ?_ (feC (d k)) ie (.agg z32) Tryz.underlying22 hie hiz 32 his ?_ ?_ (fill_sc _) ?_
                 · rfl
                 · rfl
                 · rfl
                 · omega
                 · omega
                 intro g1 w9 hg1 B1 k9)
              | (with_reducible refine append_os2G ?_ (.tmp 62) (.tmp 67) ?_ w6.heap.size u14 g1 (fsL (clL (nT lf) (e + 1) d (rd0 y) k)) (d k) ?_ ?_ (Pq.chg k9) B1 ?_ ?_ ?_
                 · rfl
                 · rfl
                 · rfl
                 · rfl
                 · unfold fsL; rw [List.length_map]; have := HLn.out; have := HN.out; have := HK.out; omega
                 · have := HD8.out; have := k9.size; omega
                 intro v10 w10 P10 k10 wh10))
            --CUT3
            have D10 : Chg w6 w10 [] := (D.trans1 k9).trans k10 (fun z hz => Or.inr (HP14.out z hz).1)
            have Q10 : Os w10 w6.heap.size u15 (snL (clL (nT lf) (e + 1) d (rd0 y) k)) := OwnR.chg (Qq.chg k9) k10 (fun z hz hz2 => HAp.out z hz2 hz)
            have HAp10 : Hid (∀ z, z ∈ ob v10 → ¬ z ∈ ob u15) := fun z hz hz2 => by
              rcases wh10 z hz with a | a
              · exact HAp.out z a hz2
              · have := (HP15.out z hz2).2; have := k9.size; omega
            have HP10 : Hid (∀ z, z ∈ ob v10 → w6.heap.size ≤ z ∧ z < w10.heap.size) := fun z hz => ob_own P10 z hz
            have HQ10 : Hid (∀ z, z ∈ ob u15 → z < w10.heap.size) := fun z hz => by have := (HP15.out z hz).2; have := k9.size; have := k10.size; omega
            have hFy := rangeAt_chg HRY.out HG6.out.2 D10 (by simp)
            have HD10 : Hid (w6.heap.size ≤ w10.heap.size) := D10.size
            replace P10 := HS3.out ▸ P10
            clear k9 k10 B1 hg1 Pq Qq D wh10 hFx
            go_wp2_with (first
              | (with_reducible refine load_sc ?_ (.tmp 72) ?_ gy (oy + k * 32) (rd0 y k) ?_ hFy ?_
                 · rfl
                 · rfl
                 · rfl)
              | (with_reducible refine bslice_w ?_ 22 24 (.tmp 73) ?_ (fe (rd0 y k)) ?_ (feC (rd0 y k)) ie (.agg z32) Tryz.underlying22 hie hiz 32 his ?_ ?_ (fill_sc _) ?_
                 · rfl
                 · rfl
                 · rfl
                 · omega
                 · omega
                 intro g2 w11 hg2 B2 k11)
              | (with_reducible refine append_os2G ?_ (.tmp 69) (.tmp 74) ?_ w6.heap.size u15 g2 (snL (clL (nT lf) (e + 1) d (rd0 y) k)) (rd0 y k) ?_ ?_ (Q10.chg k11) B2 ?_ ?_ ?_
                 · rfl
                 · rfl
                 · rfl
                 · rfl
                 · unfold snL; rw [List.length_map]; have := HLn.out; have := HN.out; have := HK.out; omega
                 · have := HD10.out; have := k11.size; omega
                 intro v12 w12 Q12 k12 wh12))
            have D12 : Chg w6 w12 [] := (D10.trans1 k11).trans k12 (fun z hz => Or.inr (HP15.out z hz).1)
            have P12 : Os w12 w6.heap.size v10 _ := OwnR.chg (P10.chg k11) k12 (fun z hz hz2 => HAp10.out z hz hz2)
            have HAp12 : Hid (∀ z, z ∈ ob v10 → ¬ z ∈ ob v12) := fun z hz hz2 => by
              rcases wh12 z hz2 with a | a
              · exact HAp10.out z hz a
              · have := (HP10.out z hz).2; have := k11.size; omega
            replace Q12 := HS4.out ▸ Q12
            clear k11 k12 B2 hg2 P10 Q10 D10 wh12 hFy
            go_roundw
            case rel => exact ⟨k + 1, HK.out, by go_num, P12, Q12, HAp12.out, D12⟩
            case measure => exact HMs.out
        · obtain rfl : N = k := by omega
          have hKi : ¬ (N : Int) < (N : Int) := by omega
          rw [Hl.out] at Pq Qq
          obtain ⟨X0, hX0⟩ : ∃ X : Nat → Int, (fun j => (l.getD j (0, 0)).1) = X := ⟨_, rfl⟩
          obtain ⟨Y0, hY0⟩ : ∃ X : Nat → Int, (fun j => (l.getD j (0, 0)).2) = X := ⟨_, rfl⟩
          rw [hX0, hY0] at Hls
          rw [hX0] at HF3
          have hX1 : ∀ j, j < T → 1 ≤ X0 j ∧ X0 j ≤ 255 := (idE_zero HF3.out).1
          have hrx : ∀ j, j < T → rd0 X0 j = X0 j := fun j hj => by unfold rd0 ad; rw [Int.add_zero]; exact mod_id (small_rl (by have := hX1 j hj; omega))
          have hry : ∀ j, j < T → rd0 Y0 j = Y0 j := fun j hj => by
            obtain ⟨i, hi, ei⟩ := HF2.out j (by have := HF1.out; omega)
            have : Y0 j = rd0 y i := by rw [← hY0]; show (l.getD j (0, 0)).2 = _; rw [ei]
            unfold rd0 ad at this ⊢
            rw [this, Int.add_zero, Int.add_zero, Int.emod_emod_of_dvd _ (Int.dvd_refl L)]
          obtain ⟨pg, cg, rfl, hLg⟩ := os_map (F := Prod.fst) (X := rd0 X0) (n := T) Pq HF1.out (fun j hj => by rw [hrx j hj, ← hX0]) (fun j hj => by obtain ⟨i, hi, ei⟩ := HF2.out j hj; rw [ei]; exact HRd.out i hi)
          obtain ⟨pk, ck, rfl, hLk⟩ := os_map (F := Prod.snd) (X := rd0 Y0) (n := T) Qq HF1.out (fun j hj => by rw [hry j hj, ← hY0]) (fun j hj => by obtain ⟨i, hi, ei⟩ := HF2.out j hj; rw [ei]; exact rd0_rG y i)
          obtain ⟨hcg, hLg⟩ := hLg HN.out.1
          obtain ⟨hck, hLk⟩ := hLk HN.out.1
          have hd2 : ∀ a i, a < i → i < T → ¬ rd0 X0 a = rd0 X0 i := fun a i h1 h2 hx => by
            rw [hrx a (by omega), hrx i h2] at hx
            have := (idE_zero HF3.out).2 a i (by omega) h2 hx
            omega
          obtain ⟨c, hc⟩ : ∃ c, cc X0 Y0 T = c := ⟨_, rfl⟩
          rw [hc] at Hls
          have HCR : Hid (∀ j, RL (c j)) := fun j => by rw [← hc]; exact cc_rl _ _ T j
          have HCo : Hid (∀ W, Chg wr W [] → Calls Tryz.prog 86 #[.slice pg T cg, .slice pk T ck] W fun ex w' => ∃ g, wr.heap.size ≤ g ∧ ex = .returned (.slice (some ⟨g, 0, none⟩) T T) ∧ Sb w' g T c ∧ Chg W w' []) := fun W hW => by
            refine (coefs_r _ _ T (rd0 X0) (rd0 Y0) (fun j _ => rd0_rG X0 j) (fun j _ => rd0_rG Y0 j) (by have := HN.out; omega) (rd0_inj hd2) W (hLg.chg0 hW) (hLk.chg0 hW)).mono ?_
            rintro ex w' ⟨g, a, b, S, kk⟩
            exact ⟨g, Nat.le_trans hW.size a, b, S.congr (fun j hj => by rw [oc_cc hd2 j hj, hc]), kk⟩
          have hTl : ¬ (l.length : Int) < (T : Int) := by have := HF1.out; omega
          have hTi : (T : Int) ≤ (l.length : Int) := by have := HF1.out; omega
          have hT0 : (0 : Int) ≤ (T : Int) := by omega
          clear h hk hX0 hY0 hX1 hrx hry hLg hLk hd2 hc Pq Qq HF2 HF3 Hl HLo HAp
          go_upto_region 20 with fail
          --CUT4
          have HD6 : Hid (w6.heap.size ≤ wr.heap.size) := D.size
          have HD0 : Hid (Chg w6 wr []) := D
          clear D
          go_cut [17] (fun t17 wc => ∃ gc, t17 = .slice (some ⟨gc, 0, none⟩) T T ∧ Sb wc gc T c ∧ Chg wr wc [])
          case first =>
            refine wp_region_held_drew (S := fun w' => Chg wr w' []) (by kernel_rfl) ((Chg.refl wr _).drew) (fun hHeld => ?_)
            refine tv (v := ?_) 0 (some 80) rfl (by kernel_rfl) (fun _ _ _ h => h) rfl rfl (fun w hSw => ?_) hHeld ?_; rotate_left; (· (go_simp; try with_reducible rfl)); try simp only [Act.put, sA1, sA2, sA3]
            refine tv (v := ?_) 1 (some 81) rfl (by kernel_rfl) (fun _ _ _ h => h) rfl rfl (fun w hSw => ?_) hHeld ?_; rotate_left; (· (go_simp; try with_reducible rfl)); try simp only [Act.put, sA1, sA2, sA3]
            refine tv (v := ?_) 2 (some 82) rfl (by kernel_rfl) (fun _ _ _ h => h) rfl rfl (fun w hSw => ?_) hHeld ?_; rotate_left; (· (go_simp; try with_reducible rfl)); try simp only [Act.put, sA1, sA2, sA3]
            refine tv (v := ?_) 3 (some 83) rfl (by kernel_rfl) (fun _ _ _ h => h) rfl rfl (fun w hSw => ?_) hHeld ?_; rotate_left; (· (go_simp; try with_reducible rfl)); try simp only [Act.put, sA1, sA2, sA3]
            refine tv (v := ?_) 4 (some 84) rfl (by kernel_rfl) (fun _ _ _ h => h) rfl rfl (fun w hSw => ?_) hHeld ?_; rotate_left; (· (go_simp; try with_reducible rfl)); try simp only [Act.put, sA1, sA2, sA3]
            refine tv (v := ?_) 5 (some 85) rfl (by kernel_rfl) (fun _ _ _ h => h) rfl rfl (fun w hSw => ?_) hHeld ?_; rotate_left; (· (go_simp; try with_reducible rfl)); try simp only [Act.put, sA1, sA2, sA3]
            refine wpAnyH_ready (rs := [6]) (by kernel_rfl) (by simp) ?_
            refine AllReadyH.cons (o := _) rfl (fun K hK => ?_) ?_
            ·
              go_simp
              refine (HCo.out _ (hHeld)).mono ?_
              rintro ex w7 ⟨gc, hgc, rfl, Sc, kc⟩
              go_wp2_with fail
              refine hK.out _ _ (hHeld.trans1 kc) (fun hHeld => ?_)
              clear hK K
              try simp only [Act.put, sA1, sA2, sA3]
              refine tv (v := ?_) 7 (some 17) rfl (by kernel_rfl) (fun _ _ _ h => h) rfl rfl (fun w hSw => ?_) hHeld ?_; rotate_left; (· (go_simp; try with_reducible rfl)); try simp only [Act.put, sA1, sA2, sA3]
              refine wpAnyH_done (by kernel_rfl) ?_ _
              have D7 := hHeld
              clear hHeld
              go_wp2_with fail
              go_meet
              case rel => exact ⟨gc, rfl, Sc, D7⟩
            exact AllReadyH.nil
          case rest =>
          obtain ⟨gc, rfl, Sc, k9⟩ := hcut
          obtain ⟨w9, rfl⟩ : ∃ z, z = wc := ⟨wc, rfl⟩
          have D := HD0.out.trans1 k9
          obtain ⟨b, hb⟩ : ∃ b, stB (nT c) T d y = b := ⟨_, rfl⟩
          have HBd : Hid (stB (nT c) T d y = b) := hb
          obtain ⟨B2, hB2⟩ : ∃ B, w9.heap.size = B := ⟨_, rfl⟩
          have HB2 : Hid (w6.heap.size ≤ B2 ∧ gc < B2 ∧ w.heap.size ≤ B2) := ⟨by rw [← hB2]; exact D.size, by rw [← hB2]; exact Sc.lt, by rw [← hB2]; exact (C.trans1 D).size⟩
          have HBw9 : Hid (B2 ≤ w9.heap.size) := Nat.le_of_eq hB2.symm
          have W0 : Oi w9 B2 (.slice none 0 0) (wnt d b N 0) := Oi.nil _ _
          clear k9 hb hB2 HCo HD0
          go_wp2_with fail
          --CUT5
          go_loopw [18, 19] (fun t18 t19 wq => ∃ m id : Nat, id = m + 1 ∧ m ≤ 255 ∧ t19 = .int .i64 (id : Int) ∧ Oi wq B2 t18 (wnt d b N m) ∧ Sb wq gc T c ∧ Chg w6 wq [] ∧ B2 ≤ wq.heap.size) (fun _ t _ => ((256 : Nat) - intOf t).toNat)
          case atStart => exact ⟨0, 1, rfl, by omega, rfl, W0, Sc, D, HBw9.out⟩
          case round =>
            clear W0 Sc D HBw9
            obtain ⟨m, id, hid, hm, rfl, W1, Sc, D, HBw⟩ := hrel
            by_cases hm2 : m < 255
            · have hidi : (id : Int) ≤ 255 := by omega
              have HID : Hid (id = m + 1 ∧ m < 255) := ⟨hid, hm2⟩
              have ew : IntKind.i64.wrap ((id : Int) + 1) = ((id + 1 : Nat) : Int) := by rw [IntKind.wrap_i64]; omega
              have HMo : Hid _ := mN 256 id (by omega)
              have HWi : Hid (wi d b (id : Int) 0 = []) := rfl
              have W2 : Oi wr B2 u18 (wnt d b N m ++ wi d b (id : Int) 0) := by rw [HWi.out, List.append_nil]; exact W1
              clear hid hm hm2 W1
              go_wp2_with fail
              go_loopw [18, 20] (fun t18 t20 wq => ∃ k : Nat, k ≤ N ∧ t20 = .int .i64 (k : Int) ∧ Oi wq B2 t18 (wnt d b N m ++ wi d b (id : Int) k) ∧ Sb wq gc T c ∧ Chg w6 wq [] ∧ B2 ≤ wq.heap.size) (fun _ t _ => (N - intOf t).toNat)
              case atStart => exact ⟨0, Nat.zero_le _, rfl, W2, Sc, D, HBw⟩
              case round =>
                clear W2 Sc D HBw
                obtain ⟨k, hk, rfl, W2, Sc, D, HBw'⟩ := hrel
                by_cases hk2 : k < N
                · have hki : (k : Int) < (N : Int) := by omega
                  have hk0 : (0 : Int) ≤ (k : Int) := by omega
                  have ewk : IntKind.i64.wrap ((k : Int) + 1) = (k : Int) + 1 := by have := HN.out; rw [IntKind.wrap_i64]; omega
                  have HMs : Hid _ := mN N k hk2
                  have HK : Hid (k < N) := hk2
                  have HBw : Hid (B2 ≤ wr.heap.size) := HBw'
                  obtain ⟨gp, op, rfl, hgp, hrp⟩ := HP.out k hk2
                  have hC := C.trans1 D
                  have hcd : wr.cell? ⟨gp, op + k * 33, none⟩ = some (.int .i64 (d k)) := by
                    have z := rangeAt_chg hrp hgp hC (by simp) 0 (.int .i64 (d k)) rfl
                    rwa [Nat.add_zero] at z
                  have HGP : Hid (gp < wr.heap.size) := Nat.lt_of_lt_of_le hgp hC.size
                  have HW : Hid (wi d b (id : Int) (k + 1) = if d k = (id : Int) ∧ b k = true then wi d b (id : Int) k ++ [(id : Int)] else wi d b (id : Int) k) := rfl
                  obtain ⟨gx, ox, rfl, hgx, hrx⟩ := HX6.out k hk2
                  obtain ⟨gy, oy, rfl, hgy, hry⟩ := HY6.out k hk2
                  obtain ⟨Yk, hYk⟩ : ∃ z, rd0 y k = z := ⟨_, rfl⟩
                  rw [hYk] at hry
                  have hFx := rangeAt_chg hrx hgx D (by simp)
                  have hFy := rangeAt_chg hry hgy D (by simp)
                  have HGX : Hid (gx < wr.heap.size) := Nat.lt_of_lt_of_le hgx D.size
                  have HGY : Hid (gy < wr.heap.size) := Nat.lt_of_lt_of_le hgy D.size
                  obtain ⟨Ek, hEk⟩ : ∃ z, ev (nT c) (d k) 0 T = z := ⟨_, rfl⟩
                  have HEv : Hid (∀ W, Chg wr W [] → Calls Tryz.prog 15 #[.slice (some ⟨gc, 0, none⟩) T T, fe (d k)] W fun ex w' => ex = .returned (fe Ek) ∧ Chg W w' []) := fun W hW => by
                    have z := Eval_r _ T (nT c) (by have := HN.out; omega) (d k) (HRd.out k hk2) W (((Sc.ls (by have := HN.out; omega) (fun j _ => r256_rl (HCR.out j)) (Nat.le_refl _))).chg0 hW)
                    rw [hEk] at z
                    exact z
                  have HBK : Hid (b k = !eqf Ek Yk) := by
                    show b k = !eqf Ek Yk
                    rw [← HBd.out, ← hEk, ← hYk, eqf_eq (r256_rl (ev_rl _ _ _ _)) (rd0_rG y k)]
                    unfold stB rd0 ad
                    rw [Int.add_zero]; rfl
                  clear hk hk2 HBw' hgp hrp hC hgx hrx hgy hry hYk hEk
                  by_cases hdk : d k = (id : Int)
                  · have hdb : (d k == (id : Int)) = true := by simpa using hdk
                    have HDK : Hid (d k = (id : Int)) := hdk
                    clear hdk
                    have hid0 : ((id : Int) == (id : Int)) = true := by simp
                    cases hq : eqf Ek Yk with
                    | true =>
                      have HW2 : Hid (wi d b (id : Int) (k + 1) = wi d b (id : Int) k) := by show _ = _; rw [HW.out, if_neg (fun x => by rw [HBK.out, hq] at x; simp at x)]
                      clear HW HBK
                      go_wp2_with fail
                      --CUT6
                      refine wp_region_held_drew (S := fun w' => Chg wr w' []) (by kernel_rfl) ((Chg.refl wr _).drew) (fun hHeld => ?_)
                      refine tv (v := ?_) 0 (some 97) rfl (by kernel_rfl) (fun _ _ _ h => h) rfl rfl (fun w hSw => ?_) hHeld ?_; rotate_left; (· (go_simp; try with_reducible rfl)); try simp only [Act.put, sA1, sA2, sA3]
                      refine tv (v := ?_) 1 (some 98) rfl (by kernel_rfl) (fun _ _ _ h => h) rfl rfl (fun w hSw => ?_) hHeld ?_; rotate_left; (· (go_simp; try with_reducible rfl)); try simp only [Act.put, sA1, sA2, sA3]
                      refine tv (v := ?_) 2 (some 99) rfl (by kernel_rfl) (fun _ _ _ h => h) rfl rfl (fun w hSw => ?_) hHeld ?_; rotate_left; (· (go_simp; try with_reducible rfl)); try simp only [Act.put, sA1, sA2, sA3]
                      refine tv (v := ?_) 3 (some 100) rfl (by kernel_rfl) (fun _ _ _ h => h) rfl rfl (fun w hSw => ?_) hHeld ?_; rotate_left; (· (go_simp; try with_reducible rfl)); try simp only [Act.put, sA1, sA2, sA3]
                      refine tv (v := (.int .i64 (d k))) 4 (some 101) rfl (by kernel_rfl) (fun _ _ _ h => h) rfl rfl (fun w hSw => ?_) hHeld ?_
                      · have hcc := cell_chg hcd HGP.out hSw (by simp)
                        (go_simp; try with_reducible rfl)
                      try simp only [Act.put, sA1, sA2, sA3]
                      refine tv (v := ?_) 5 (some 102) rfl (by kernel_rfl) (fun _ _ _ h => h) rfl rfl (fun w hSw => ?_) hHeld ?_; rotate_left; (· (go_simp; try with_reducible rfl)); try simp only [Act.put, sA1, sA2, sA3]
                      refine tv (v := ?_) 6 (some 103) rfl (by kernel_rfl) (fun _ _ _ h => h) rfl rfl (fun w hSw => ?_) hHeld ?_; rotate_left; (· (go_simp; try with_reducible rfl)); try simp only [Act.put, sA1, sA2, sA3]
                      refine tv (v := ?_) 7 (some 104) rfl (by kernel_rfl) (fun _ _ _ h => h) rfl rfl (fun w hSw => ?_) hHeld ?_; rotate_left; (· (go_simp; try with_reducible rfl)); try simp only [Act.put, sA1, sA2, sA3]
                      refine tv (v := ?_) 8 (some 105) rfl (by kernel_rfl) (fun _ _ _ h => h) rfl rfl (fun w hSw => ?_) hHeld ?_; rotate_left; (· (go_simp; try with_reducible rfl)); try simp only [Act.put, sA1, sA2, sA3]
                      refine tv (v := ?_) 9 (some 106) rfl (by kernel_rfl) (fun _ _ _ h => h) rfl rfl (fun w hSw => ?_) hHeld ?_; rotate_left; (· (go_simp; try with_reducible rfl)); try simp only [Act.put, sA1, sA2, sA3]
                      refine tv (v := ?_) 10 (some 107) rfl (by kernel_rfl) (fun _ _ _ h => h) rfl rfl (fun w hSw => ?_) hHeld ?_; rotate_left; (· (go_simp; try with_reducible rfl)); try simp only [Act.put, sA1, sA2, sA3]
                      refine tv (v := ?_) 11 (some 108) rfl (by kernel_rfl) (fun _ _ _ h => h) rfl rfl (fun w hSw => ?_) hHeld ?_; rotate_left; (· (go_simp; try with_reducible rfl)); try simp only [Act.put, sA1, sA2, sA3]
                      refine tv (v := (.agg (feC (d k)))) 12 (some 109) rfl (by kernel_rfl) (fun _ _ _ h => h) rfl rfl (fun w hSw => ?_) hHeld ?_
                      · exact exec_load_m w 24 _ rfl gx (ox + k * 32) rfl (feL (d k)) _ (rangeAt_chg hFx HGX.out hSw (by simp)) Tryz.underlying24 rfl feInfo
                      try simp only [Act.put, sA1, sA2, sA3]
                      refine tv (v := ?_) 14 (some 111) rfl (by kernel_rfl) (fun _ _ _ h => h) rfl rfl (fun w hSw => ?_) hHeld ?_; rotate_left; (· (go_simp; try with_reducible rfl)); try simp only [Act.put, sA1, sA2, sA3]
                      refine tv (v := ?_) 15 (some 112) rfl (by kernel_rfl) (fun _ _ _ h => h) rfl rfl (fun w hSw => ?_) hHeld ?_; rotate_left; (· (go_simp; try with_reducible rfl)); try simp only [Act.put, sA1, sA2, sA3]
                      refine tv (v := ?_) 16 (some 113) rfl (by kernel_rfl) (fun _ _ _ h => h) rfl rfl (fun w hSw => ?_) hHeld ?_; rotate_left; (· (go_simp; try with_reducible rfl)); try simp only [Act.put, sA1, sA2, sA3]
                      refine tv (v := (.agg (feC Yk))) 17 (some 114) rfl (by kernel_rfl) (fun _ _ _ h => h) rfl rfl (fun w hSw => ?_) hHeld ?_
                      · exact exec_load_m w 24 _ rfl gy (oy + k * 32) rfl (feL (Yk)) _ (rangeAt_chg hFy HGY.out hSw (by simp)) Tryz.underlying24 rfl feInfo
                      try simp only [Act.put, sA1, sA2, sA3]
                      refine wpAnyH_ready (rs := [13]) (by kernel_rfl) (by simp) ?_
                      refine AllReadyH.cons (o := _) rfl (fun K hK => ?_) ?_
                      ·
                        go_simp
                        refine (HEv.out _ hHeld).mono ?_
                        rintro ex w7 ⟨rfl, kc⟩
                        go_wp2_with fail
                        refine hK.out _ _ (hHeld.trans1 kc) (fun hHeld => ?_)
                        clear hK K
                        try simp only [Act.put, sA1, sA2, sA3]
                        clear kc
                        refine tv (v := (.bool (!eqf Ek Yk))) 18 (some 115) rfl (by kernel_rfl) (fun _ _ _ h => h) rfl rfl (fun w hSw => ?_) hHeld ?_
                        · (go_simp; try with_reducible rfl)
                        try simp only [Act.put, sA1, sA2, sA3]
                        refine tv (v := ?_) 19 (some 116) rfl (by kernel_rfl) (fun _ _ _ h => h) rfl rfl (fun w hSw => ?_) hHeld ?_; rotate_left; (· (go_simp; try with_reducible rfl)); try simp only [Act.put, sA1, sA2, sA3]
                        refine wpAnyH_done (by kernel_rfl) ?_ _
                        replace W2 := W2.chg hHeld
                        have Sc2 := Sc.chg hHeld (by simp)
                        replace D := D.trans1 hHeld
                        have HS : Hid (B2 ≤ _) := Nat.le_trans HBw.out hHeld.size
                        clear hHeld hcd Sc
                        clear hFx hFy
                        go_wp2_with fail
                        go_roundw
                        case rel => exact ⟨k + 1, HK.out, by go_num, by rw [HW2.out]; exact W2, Sc2, D, HS.out⟩
                        case measure => exact HMs.out
                      exact AllReadyH.nil
                    | false =>
                      have HW2 : Hid (wnt d b N m ++ wi d b (id : Int) (k + 1) = (wnt d b N m ++ wi d b (id : Int) k) ++ [(id : Int)]) := by show _ = _; rw [HW.out, if_pos ⟨HDK.out, by rw [HBK.out, hq]; rfl⟩, List.append_assoc]
                      have HLn : Hid ((wnt d b N m ++ wi d b (id : Int) k).length ≤ 100000) := by
                        have := wnt_len d b N m; have := wi_len d b (id : Int) k; have := HID.out; have := HN.out; have := HK.out
                        have : m * N ≤ 255 * 255 := Nat.mul_le_mul (by omega) (by omega)
                        show (wnt d b N m ++ wi d b (id : Int) k).length ≤ 100000
                        rw [List.length_append]; omega
                      clear HW HBK
                      go_wp2_with fail
                      refine wp_region_held_drew (S := fun w' => Chg wr w' []) (by kernel_rfl) ((Chg.refl wr _).drew) (fun hHeld => ?_)
                      refine tv (v := ?_) 0 (some 97) rfl (by kernel_rfl) (fun _ _ _ h => h) rfl rfl (fun w hSw => ?_) hHeld ?_; rotate_left; (· (go_simp; try with_reducible rfl)); try simp only [Act.put, sA1, sA2, sA3]
                      refine tv (v := ?_) 1 (some 98) rfl (by kernel_rfl) (fun _ _ _ h => h) rfl rfl (fun w hSw => ?_) hHeld ?_; rotate_left; (· (go_simp; try with_reducible rfl)); try simp only [Act.put, sA1, sA2, sA3]
                      refine tv (v := ?_) 2 (some 99) rfl (by kernel_rfl) (fun _ _ _ h => h) rfl rfl (fun w hSw => ?_) hHeld ?_; rotate_left; (· (go_simp; try with_reducible rfl)); try simp only [Act.put, sA1, sA2, sA3]
                      refine tv (v := ?_) 3 (some 100) rfl (by kernel_rfl) (fun _ _ _ h => h) rfl rfl (fun w hSw => ?_) hHeld ?_; rotate_left; (· (go_simp; try with_reducible rfl)); try simp only [Act.put, sA1, sA2, sA3]
                      refine tv (v := (.int .i64 (d k))) 4 (some 101) rfl (by kernel_rfl) (fun _ _ _ h => h) rfl rfl (fun w hSw => ?_) hHeld ?_
                      · have hcc := cell_chg hcd HGP.out hSw (by simp)
                        (go_simp; try with_reducible rfl)
                      try simp only [Act.put, sA1, sA2, sA3]
                      refine tv (v := ?_) 5 (some 102) rfl (by kernel_rfl) (fun _ _ _ h => h) rfl rfl (fun w hSw => ?_) hHeld ?_; rotate_left; (· (go_simp; try with_reducible rfl)); try simp only [Act.put, sA1, sA2, sA3]
                      refine tv (v := ?_) 6 (some 103) rfl (by kernel_rfl) (fun _ _ _ h => h) rfl rfl (fun w hSw => ?_) hHeld ?_; rotate_left; (· (go_simp; try with_reducible rfl)); try simp only [Act.put, sA1, sA2, sA3]
                      refine tv (v := ?_) 7 (some 104) rfl (by kernel_rfl) (fun _ _ _ h => h) rfl rfl (fun w hSw => ?_) hHeld ?_; rotate_left; (· (go_simp; try with_reducible rfl)); try simp only [Act.put, sA1, sA2, sA3]
                      refine tv (v := ?_) 8 (some 105) rfl (by kernel_rfl) (fun _ _ _ h => h) rfl rfl (fun w hSw => ?_) hHeld ?_; rotate_left; (· (go_simp; try with_reducible rfl)); try simp only [Act.put, sA1, sA2, sA3]
                      refine tv (v := ?_) 9 (some 106) rfl (by kernel_rfl) (fun _ _ _ h => h) rfl rfl (fun w hSw => ?_) hHeld ?_; rotate_left; (· (go_simp; try with_reducible rfl)); try simp only [Act.put, sA1, sA2, sA3]
                      refine tv (v := ?_) 10 (some 107) rfl (by kernel_rfl) (fun _ _ _ h => h) rfl rfl (fun w hSw => ?_) hHeld ?_; rotate_left; (· (go_simp; try with_reducible rfl)); try simp only [Act.put, sA1, sA2, sA3]
                      refine tv (v := ?_) 11 (some 108) rfl (by kernel_rfl) (fun _ _ _ h => h) rfl rfl (fun w hSw => ?_) hHeld ?_; rotate_left; (· (go_simp; try with_reducible rfl)); try simp only [Act.put, sA1, sA2, sA3]
                      refine tv (v := (.agg (feC (d k)))) 12 (some 109) rfl (by kernel_rfl) (fun _ _ _ h => h) rfl rfl (fun w hSw => ?_) hHeld ?_
                      · exact exec_load_m w 24 _ rfl gx (ox + k * 32) rfl (feL (d k)) _ (rangeAt_chg hFx HGX.out hSw (by simp)) Tryz.underlying24 rfl feInfo
                      try simp only [Act.put, sA1, sA2, sA3]
                      refine tv (v := ?_) 14 (some 111) rfl (by kernel_rfl) (fun _ _ _ h => h) rfl rfl (fun w hSw => ?_) hHeld ?_; rotate_left; (· (go_simp; try with_reducible rfl)); try simp only [Act.put, sA1, sA2, sA3]
                      refine tv (v := ?_) 15 (some 112) rfl (by kernel_rfl) (fun _ _ _ h => h) rfl rfl (fun w hSw => ?_) hHeld ?_; rotate_left; (· (go_simp; try with_reducible rfl)); try simp only [Act.put, sA1, sA2, sA3]
                      refine tv (v := ?_) 16 (some 113) rfl (by kernel_rfl) (fun _ _ _ h => h) rfl rfl (fun w hSw => ?_) hHeld ?_; rotate_left; (· (go_simp; try with_reducible rfl)); try simp only [Act.put, sA1, sA2, sA3]
                      refine tv (v := (.agg (feC Yk))) 17 (some 114) rfl (by kernel_rfl) (fun _ _ _ h => h) rfl rfl (fun w hSw => ?_) hHeld ?_
                      · exact exec_load_m w 24 _ rfl gy (oy + k * 32) rfl (feL (Yk)) _ (rangeAt_chg hFy HGY.out hSw (by simp)) Tryz.underlying24 rfl feInfo
                      try simp only [Act.put, sA1, sA2, sA3]
                      refine wpAnyH_ready (rs := [13]) (by kernel_rfl) (by simp) ?_
                      refine AllReadyH.cons (o := _) rfl (fun K hK => ?_) ?_
                      ·
                        go_simp
                        refine (HEv.out _ hHeld).mono ?_
                        rintro ex w7 ⟨rfl, kc⟩
                        go_wp2_with fail
                        refine hK.out _ _ (hHeld.trans1 kc) (fun hHeld => ?_)
                        clear hK K
                        try simp only [Act.put, sA1, sA2, sA3]
                        clear kc
                        refine tv (v := (.bool (!eqf Ek Yk))) 18 (some 115) rfl (by kernel_rfl) (fun _ _ _ h => h) rfl rfl (fun w hSw => ?_) hHeld ?_
                        · (go_simp; try with_reducible rfl)
                        try simp only [Act.put, sA1, sA2, sA3]
                        refine tv (v := ?_) 19 (some 116) rfl (by kernel_rfl) (fun _ _ _ h => h) rfl rfl (fun w hSw => ?_) hHeld ?_; rotate_left; (· (go_simp; try with_reducible rfl)); try simp only [Act.put, sA1, sA2, sA3]
                        refine wpAnyH_done (by kernel_rfl) ?_ _
                        have W3 := W2.chg hHeld
                        have Sc2 := Sc.chg hHeld (by simp)
                        replace D := D.trans1 hHeld
                        have HOB : Hid (∀ z, z ∈ ob u18 → B2 ≤ z) := fun z hz => (ob_own W3 z hz).1
                        have HBw2 := Nat.le_trans HBw.out hHeld.size
                        have HBw3 : Hid (B2 ≤ _) := HBw2
                        clear hHeld hcd Sc W2 HBw2
                        clear hFx hFy
                        go_wp2_with (first
                          | (with_reducible refine bslice_w ?_ 25 3 (.tmp 118) ?_ (.int .i64 (id : Int)) ?_ #[.int .i64 (id : Int)] ii (.int .i64 0) Tryz.underlying25 hii hizz 1 hiss ?_ ?_ (fill_int (id : Int)) ?_
                             · rfl
                             · rfl
                             · rfl
                             · omega
                             · omega
                             intro gz w8 hgz Bz k8)
                          | (with_reducible refine append_oi ?_ (.tmp 117) (.tmp 119) ?_ B2 u18 gz (wnt d b N m ++ wi d b (id : Int) k) (id : Int) ?_ ?_ (W3.chg k8) Bz ?_ ?_ ?_
                             · rfl
                             · rfl
                             · rfl
                             · rfl
                             · have := HLn.out; omega
                             · have := HBw3.out; have := k8.size; omega
                             intro v9 w9 W9 k9))
                        have D9 : Chg w6 w9 [] := (D.trans1 k8).trans k9 (fun z hz => Or.inr (by have := HOB.out z hz; have := HB2.out; omega))
                        have Sc9 := (Sc2.chg k8 (by simp)).chg k9 (fun hz => by have := HOB.out gc hz; have := HB2.out; omega)
                        have HS : Hid (B2 ≤ w9.heap.size) := by have := HBw3.out; have := k8.size; have := k9.size; show B2 ≤ w9.heap.size; omega
                        clear k8 k9 W3 D Bz hgz Sc2
                        go_roundw
                        case rel => exact ⟨k + 1, HK.out, by go_num, by rw [HW2.out]; exact W9, Sc9, D9, HS.out⟩
                        case measure => exact HMs.out
                      exact AllReadyH.nil
                  · have hdb : (d k == (id : Int)) = false := by simpa using hdk
                    have HW2 : Hid (wi d b (id : Int) (k + 1) = wi d b (id : Int) k) := by show _ = _; rw [HW.out, if_neg (fun x => hdk x.1)]
                    clear HW HBK HEv hFx hFy
                    go_wp2_with fail
                    --CUT7
                    refine wp_region_held_drew (S := fun w' => Chg wr w' []) (by kernel_rfl) ((Chg.refl wr _).drew) (fun hHeld => ?_)
                    refine tv (v := ?_) 0 (some 97) rfl (by kernel_rfl) (fun _ _ _ h => h) rfl rfl (fun w hSw => ?_) hHeld ?_; rotate_left; (· (go_simp; try with_reducible rfl)); try simp only [Act.put, sA1, sA2, sA3]
                    refine tv (v := ?_) 1 (some 98) rfl (by kernel_rfl) (fun _ _ _ h => h) rfl rfl (fun w hSw => ?_) hHeld ?_; rotate_left; (· (go_simp; try with_reducible rfl)); try simp only [Act.put, sA1, sA2, sA3]
                    refine tv (v := ?_) 2 (some 99) rfl (by kernel_rfl) (fun _ _ _ h => h) rfl rfl (fun w hSw => ?_) hHeld ?_; rotate_left; (· (go_simp; try with_reducible rfl)); try simp only [Act.put, sA1, sA2, sA3]
                    refine tv (v := ?_) 3 (some 100) rfl (by kernel_rfl) (fun _ _ _ h => h) rfl rfl (fun w hSw => ?_) hHeld ?_; rotate_left; (· (go_simp; try with_reducible rfl)); try simp only [Act.put, sA1, sA2, sA3]
                    refine tv (v := (.int .i64 (d k))) 4 (some 101) rfl (by kernel_rfl) (fun _ _ _ h => h) rfl rfl (fun w hSw => ?_) hHeld ?_
                    · have hcc := cell_chg hcd HGP.out hSw (by simp)
                      (go_simp; try with_reducible rfl)
                    try simp only [Act.put, sA1, sA2, sA3]
                    refine tv (v := ?_) 5 (some 102) rfl (by kernel_rfl) (fun _ _ _ h => h) rfl rfl (fun w hSw => ?_) hHeld ?_; rotate_left; (· (go_simp; try with_reducible rfl)); try simp only [Act.put, sA1, sA2, sA3]
                    refine tv (v := ?_) 6 (some 103) rfl (by kernel_rfl) (fun _ _ _ h => h) rfl rfl (fun w hSw => ?_) hHeld ?_; rotate_left; (· (go_simp; try with_reducible rfl)); try simp only [Act.put, sA1, sA2, sA3]
                    refine tv (v := ?_) 7 (some 104) rfl (by kernel_rfl) (fun _ _ _ h => h) rfl rfl (fun w hSw => ?_) hHeld ?_; rotate_left; (· (go_simp; try with_reducible rfl)); try simp only [Act.put, sA1, sA2, sA3]
                    refine take_no 8 (some 105) rfl (by kernel_rfl) (by kernel_rfl) (by kernel_rfl) (fun _ _ _ h => h) rfl rfl hHeld ?_
                    try simp only [Act.put, sA1, sA2, sA3]
                    refine take_no 9 (some 106) rfl (by kernel_rfl) (by kernel_rfl) (by kernel_rfl) (fun _ _ _ h => h) rfl rfl hHeld ?_
                    try simp only [Act.put, sA1, sA2, sA3]
                    refine take_no 10 (some 107) rfl (by kernel_rfl) (by kernel_rfl) (by kernel_rfl) (fun _ _ _ h => h) rfl rfl hHeld ?_
                    try simp only [Act.put, sA1, sA2, sA3]
                    refine take_no 11 (some 108) rfl (by kernel_rfl) (by kernel_rfl) (by kernel_rfl) (fun _ _ _ h => h) rfl rfl hHeld ?_
                    try simp only [Act.put, sA1, sA2, sA3]
                    refine take_no 12 (some 109) rfl (by kernel_rfl) (by kernel_rfl) (by kernel_rfl) (fun _ _ _ h => h) rfl rfl hHeld ?_
                    try simp only [Act.put, sA1, sA2, sA3]
                    refine take_no 13 (some 110) rfl (by kernel_rfl) (by kernel_rfl) (by kernel_rfl) (fun _ _ _ h => h) rfl rfl hHeld ?_
                    try simp only [Act.put, sA1, sA2, sA3]
                    refine take_no 14 (some 111) rfl (by kernel_rfl) (by kernel_rfl) (by kernel_rfl) (fun _ _ _ h => h) rfl rfl hHeld ?_
                    try simp only [Act.put, sA1, sA2, sA3]
                    refine take_no 15 (some 112) rfl (by kernel_rfl) (by kernel_rfl) (by kernel_rfl) (fun _ _ _ h => h) rfl rfl hHeld ?_
                    try simp only [Act.put, sA1, sA2, sA3]
                    refine take_no 16 (some 113) rfl (by kernel_rfl) (by kernel_rfl) (by kernel_rfl) (fun _ _ _ h => h) rfl rfl hHeld ?_
                    try simp only [Act.put, sA1, sA2, sA3]
                    refine take_no 17 (some 114) rfl (by kernel_rfl) (by kernel_rfl) (by kernel_rfl) (fun _ _ _ h => h) rfl rfl hHeld ?_
                    try simp only [Act.put, sA1, sA2, sA3]
                    refine take_no 18 (some 115) rfl (by kernel_rfl) (by kernel_rfl) (by kernel_rfl) (fun _ _ _ h => h) rfl rfl hHeld ?_
                    try simp only [Act.put, sA1, sA2, sA3]
                    refine tv (v := ?_) 19 (some 116) rfl (by kernel_rfl) (fun _ _ _ h => h) rfl rfl (fun w hSw => ?_) hHeld ?_; rotate_left; (· (go_simp; try with_reducible rfl)); try simp only [Act.put, sA1, sA2, sA3]
                    refine wpAnyH_done (by kernel_rfl) ?_ _
                    replace W2 := W2.chg hHeld
                    have Sc2 := Sc.chg hHeld (by simp)
                    replace D := D.trans1 hHeld
                    have HS : Hid (B2 ≤ _) := Nat.le_trans HBw.out hHeld.size
                    clear hHeld hcd Sc
                    skip
                    go_wp2_with fail
                    go_roundw
                    case rel => exact ⟨k + 1, HK.out, by go_num, by rw [HW2.out]; exact W2, Sc2, D, HS.out⟩
                    case measure => exact HMs.out
                · obtain rfl : N = k := by omega
                  have hki : ¬ (N : Int) < (N : Int) := by omega
                  have HS : Hid (B2 ≤ wr.heap.size) := HBw'
                  have W3 : Oi wr B2 u18 (wnt d b N (m + 1)) := by
                    show Oi wr B2 u18 (wnt d b N m ++ wi d b ((m + 1 : Nat) : Int) N)
                    rw [← HID.out.1]; exact W2
                  clear W2 hk hk2 HBw'
                  go_wp2_with fail
                  go_roundw
                  case rel => exact ⟨m + 1, id + 1, by have := HID.out; omega, by have := HID.out; omega, by go_num, W3, Sc, D, HS.out⟩
                  case measure => exact HMo.out
            · obtain rfl : m = 255 := by omega
              subst hid
              have hlen := wnt_st (y := y) (T := T) (c := c) HI.out
              rw [HBd.out] at hlen
              have W5 : Oi wr w.heap.size u18 (wnt d b N 255) := ⟨ownsRow_base W1.1 HB2.out.2.2, W1.2⟩
              have C9 := C.trans1 D
              obtain ⟨ps, cs, rfl⟩ := W1.form
              clear hm hm2 W1 D
              by_cases hs : (stL (nT c) T d y N).length ≤ e
              · have hs2 : ¬ (e : Int) < ((wnt d b N 255).length : Int) := by omega
                have HS : Hid ((stL (nT c) T d y N).length ≤ e) := hs
                clear hs hlen
                go_wp2_with fail
                go_ret3
                refine ⟨_, rfl, Or.inr ⟨HE.out, gc, _, c, rfl, ?_, HCR.out, ?_, ?_⟩, C9⟩
                · rw [Int.toNat_natCast]; exact Sc
                · rw [Int.toNat_natCast, HN.out.2.2.2.1]; exact HS.out
                · rw [Int.toNat_natCast, HBd.out]; exact W5
              · have hs1 : (e : Int) < ((wnt d b N 255).length : Int) := by omega
                have HS : Hid (¬ (stL (nT c) T d y N).length ≤ e) := hs
                clear hs hlen
                go_wp2_with fail
                go_ret3
                exact ⟨_, rfl, Or.inl ⟨72, rfl, Or.inr ⟨HE.out, rfl, fun f => by
                  rw [Int.toNat_natCast, HN.out.2.2.2.1]
                  exact fun hf => HS.out (by rw [Hls.out f hf]; exact hf)⟩⟩, C9⟩
  · have HE : Hid (¬ enR d N t = 0) := hE
    have hE2 : ¬ enR d N t = 0 := hE
    obtain ⟨c, hc⟩ : ∃ c, enR d N t = c := ⟨_, rfl⟩
    have HC : Hid (enR d N t = c) := hc
    rw [hc] at hK hE2
    clear hE hc
    go_enter Tryz.func35, Tryz.ntmps35
    go_wp2_with fail
    refine hK.mono ?_
    rintro ex w1 ⟨rfl, C⟩
    go_wp2_with fail
    go_ret3
    exact ⟨_, rfl, Or.inl ⟨c, rfl, Or.inl ⟨HE.out, HC.out.symm⟩⟩, C⟩
end Go.Proofs.YtoafcaieifjoiaaGreat
