/- Joined: Lst3, SamS, ShR1. -/
import Derived.Test.YtoafcaieifjoiaaGreatMgZ
import Derived.Test.YtoafcaieifjoiaaGreatMgK
import Derived.Deep.MidRow
import Derived.Test.YtoafcaieifjoiaaGreatMgD
import Derived.Test.YtoafcaieifjoiaaGreatMgC
import Derived.Test.YtoafcaieifjoiaaGreatMgX
/- rimeref02.Sum and Product over lists. -/
set_option linter.unusedVariables false
set_option linter.unusedSimpArgs false
set_option linter.unnecessarySimpa false
namespace Go.Proofs.YtoafcaieifjoiaaGreat
open Go.RowKit N

theorem Fc.range {w : World} {g o : Nat} {n : Int} (h : Fc w g o n) : w.rangeAt g o (feL n) := fun j v hv => by
  have hj : j < 32 := by
    have := (List.getElem?_eq_some_iff.1 hv).1
    rw [feL_len] at this
    exact this
  rw [h.cell j hj]
  have e := feC_get n j hj
  have e2 : (feC n)[j]? = some v := by
    have h' : (feL n).toArray[j]? = some v := by simpa using hv
    exact h'
  rw [e] at e2
  exact e2
theorem exec_load_mid {P : Program} {op : Oper} {a : Act} (w : World) (ty : TypeId) (x : Operand) (ho : op.op = .load ty x) (b o : Nat) (hx : a.eval x = .pointer (some ⟨b, o, none⟩)) (cs : List Value) (d : TypeDesc) (hc : w.rangeAt b o cs)
    (hu : P.underlying ty = some d) (hd : d.isRow = true) (hi : (P.info? ty).map (·.size) = some cs.length) : (execOp a.eval op).run P w = .ok (.value (.agg cs.toArray)) w := by
  unfold execOp
  simp only [ho, hx, Instr.loadAt, Instr.sureAddr, Sem.run_bind, Sem.run_pure, Result.andThen_ok, run_loadVar_mid w b o ty cs d hc hu hd hi]
end Go.Proofs.YtoafcaieifjoiaaGreat

/- rimeplain.SameScalars of equal lists. -/
namespace Go.Proofs.YtoafcaieifjoiaaGreat
open Go.RowKit N

set_option maxHeartbeats 8000000 in
set_option maxRecDepth 100000 in
theorem SameScalars_t (v u : Value) (N : Nat) (f : Nat → Nat) (hN : N ≤ 140737488355328) (w : World) (hL : Ls w v N f) (hU : Ls w u N f) :
    Calls Tryz.prog 24 #[v, u] w fun e w' => e = .returned (.bool true) ∧ Chg w w' [] := by
  have hge := feGuard
  obtain ⟨p, cp, rfl, hp⟩ := hL.form
  obtain ⟨p', cp', rfl, hp'⟩ := hU.form
  go_enter Tryz.func24, Tryz.ntmps24
  go_wp2_with fail
  go_loopw [5] (fun t wr => ∃ i : Nat, i ≤ N ∧ t = .int .i64 (i : Int) ∧ Chg w wr []) (fun t _ => (N - intOf t).toNat)
  case atStart => exact ⟨0, Nat.zero_le _, rfl, Chg.refl _ _⟩
  case round =>
    obtain ⟨i, hi, rfl, cC⟩ := hrel
    by_cases h : i < N
    · have hI : (i : Int) < (N : Int) := by omega
      have hI0 : (0 : Int) ≤ (i : Int) := by omega
      have HM : Hid _ := mN N i h
      have HI1 : Hid (i + 1 ≤ N) := h
      obtain ⟨g, o, rfl, hg, hF⟩ := hp i h
      obtain ⟨g', o', rfl, hg', hG0⟩ := hp' i h
      have hF' := hF.chg cC (by simp)
      have hG' := hG0.chg cC (by simp)
      have z1 : eqf ((f i : Nat) : Int) ((f i : Nat) : Int) = true := eqf_self _
      clear hp hp' h hi hF hg hG0 hg' hL hU
      go_wp2_with fail
      refine wp_region_held_drew (S := fun w' => Chg wr w' []) (by kernel_rfl) ((Chg.refl wr _).drew) (fun hHeld => ?_)
      refine tv (v := ?_) 0 (some 17) rfl (by kernel_rfl) (fun _ _ _ h => h) rfl rfl (fun w hSw => ?_) hHeld ?_; rotate_left; (· (go_simp; try with_reducible rfl)); try simp only [Act.put, sA1, sA2, sA3]
      refine tv (v := ?_) 1 (some 18) rfl (by kernel_rfl) (fun _ _ _ h => h) rfl rfl (fun w hSw => ?_) hHeld ?_; rotate_left; (· (go_simp; try with_reducible rfl)); try simp only [Act.put, sA1, sA2, sA3]
      refine tv (v := ?_) 2 (some 19) rfl (by kernel_rfl) (fun _ _ _ h => h) rfl rfl (fun w hSw => ?_) hHeld ?_; rotate_left; (· (go_simp; try with_reducible rfl)); try simp only [Act.put, sA1, sA2, sA3]
      refine tv (v := (.agg (feC ((f i : Nat) : Int)))) 3 (some 20) rfl (by kernel_rfl) (fun _ _ _ h => h) rfl rfl (fun w hSw => ?_) hHeld ?_
      · exact exec_load_mid w 24 _ rfl g (o + i * 32) rfl (feL ((f i : Nat) : Int)) _ (hF'.chg hSw (by simp)).range Tryz.underlying24 rfl feInfo
      try simp only [Act.put, sA1, sA2, sA3]
      refine tv (v := ?_) 4 (some 21) rfl (by kernel_rfl) (fun _ _ _ h => h) rfl rfl (fun w hSw => ?_) hHeld ?_; rotate_left; (· (go_simp; try with_reducible rfl)); try simp only [Act.put, sA1, sA2, sA3]
      refine tv (v := ?_) 5 (some 22) rfl (by kernel_rfl) (fun _ _ _ h => h) rfl rfl (fun w hSw => ?_) hHeld ?_; rotate_left; (· (go_simp; try with_reducible rfl)); try simp only [Act.put, sA1, sA2, sA3]
      refine tv (v := ?_) 6 (some 23) rfl (by kernel_rfl) (fun _ _ _ h => h) rfl rfl (fun w hSw => ?_) hHeld ?_; rotate_left; (· (go_simp; try with_reducible rfl)); try simp only [Act.put, sA1, sA2, sA3]
      refine tv (v := (.agg (feC ((f i : Nat) : Int)))) 7 (some 24) rfl (by kernel_rfl) (fun _ _ _ h => h) rfl rfl (fun w hSw => ?_) hHeld ?_
      · exact exec_load_mid w 24 _ rfl g' (o' + i * 32) rfl (feL ((f i : Nat) : Int)) _ (hG'.chg hSw (by simp)).range Tryz.underlying24 rfl feInfo
      try simp only [Act.put, sA1, sA2, sA3]
      refine tv (v := (.bool false)) 8 (some 25) rfl (by kernel_rfl) (fun _ _ _ h => h) rfl rfl (fun w hSw => ?_) hHeld ?_
      · (go_simp; try with_reducible rfl)
      try simp only [Act.put, sA1, sA2, sA3]
      refine wpAnyH_done (by kernel_rfl) ?_ _
      go_wp2_with fail
      exact ⟨⟨i + 1, HI1.out, by go_num, cC.trans1 hHeld⟩, HM.out⟩
    · have hI : ¬ (i : Int) < (N : Int) := by omega
      go_wp2_with fail
      go_ret
      exact ⟨rfl, cC⟩
end Go.Proofs.YtoafcaieifjoiaaGreat

/- rimeref07.Place, Eval, At, IDs. -/
namespace Go.Proofs.YtoafcaieifjoiaaGreat
open Go.RowKit N

theorem by8_hi8 (n i : Nat) (hn : n < 18446744073709551616) (hi : 8 ≤ i) : by8 (n : Int) i = 0 := by
  rw [by8_nat]
  have h : 256 ^ 8 ≤ 256 ^ i := Nat.pow_le_pow_right (by decide) hi
  rw [Nat.div_eq_of_lt (by omega)]
  rfl
set_option maxHeartbeats 8000000 in
set_option maxRecDepth 100000 in
theorem FromInt_q (n : Nat) (hn : n < 18446744073709551616) (w : World) :
    Calls Tryz.prog 93 #[.int .u64 (n : Int)] w fun e w' => e = .returned (fe (n : Int)) ∧ Chg w w' [] := by
  have B1 : Blk ((w.alloc (.cells z32 24)).alloc (.cells z32 24)) w.heap.size z32 24 := (Blk.new w z32 24).alloc _
  have B2 : Blk ((w.alloc (.cells z32 24)).alloc (.cells z32 24)) (w.heap.size + 1) z32 24 := by have h := Blk.new (w.alloc (.cells z32 24)) z32 24; simpa using h
  have C0 : Chg w ((w.alloc (.cells z32 24)).alloc (.cells z32 24)) [] := ((Chg.refl w []).alloc _).alloc _
  rw [show z32 = b32 (bx (n : Int) 0) from b32_z32.symm] at B2
  go_enter Tryz.func93, Tryz.ntmps93
  go_wp2_with fail
  go_loopw [4] (fun t wr => ∃ i : Nat, i ≤ 8 ∧ t = .int .i64 (i : Int) ∧ Blk wr w.heap.size z32 24 ∧ Blk wr (w.heap.size + 1) (b32 (bx (n : Int) i)) 24 ∧ Chg w wr []) (fun t _ => (8 - intOf t).toNat)
  case atStart => exact ⟨0, by omega, rfl, B1, B2, C0⟩
  case round =>
    obtain ⟨i, hi, rfl, b1, b2, c0⟩ := hrel
    clear B1 B2 C0
    by_cases h8 : i < 8
    · have hI : (i : Int) < 8 := by omega
      have hI3 : (i : Int) < 32 := by omega
      have hw8 : IntKind.i64.wrap (8 * ((i : Nat) : Int)) = 8 * ((i : Nat) : Int) := by rw [IntKind.wrap_i64]; omega
      have hw : IntKind.u64.wrap (8 * ((i : Nat) : Int)) = 8 * ((i : Nat) : Int) := by rw [IntKind.wrap_u64]; omega
      have htn : (8 * ((i : Nat) : Int)).toNat = 8 * i := by omega
      have hmi : min (8 * i) 64 = 8 * i := by omega
      have cB := (b2.cell i).trans (b32_get _ i (by omega))
      have fB := b2.frozen i
      have hv : ((n : Int) / 2 ^ (8 * i)) % 256 = by8 (n : Int) i := by
        unfold by8
        rw [show (256 : Int) ^ i = 2 ^ (8 * i) from by rw [Int.pow_mul]; rfl]
      have b2n : Blk (wr.setCell ⟨w.heap.size + 1, i, none⟩ (.int .u8 (by8 (n : Int) i))) (w.heap.size + 1) (b32 (bx (n : Int) (i + 1))) 24 := (b2.setCell i _).to (b32_set _ _ _ _ (fun j _ => bx_step _ _ _))
      have b1n := b1.setOther (show ¬ w.heap.size = w.heap.size + 1 by omega) i (.int .u8 (by8 (n : Int) i))
      have cn := c0.setNew (show w.heap.size ≤ w.heap.size + 1 by omega) i (.int .u8 (by8 (n : Int) i))
      clear b1 b2 c0
      go_wp2_with fail
      exact ⟨⟨i + 1, by omega, by go_num, b1n, b2n, cn⟩, by simp [intOf]; omega⟩
    · have h9 : i = 8 := by omega
      subst h9
      rw [b32_fe (n : Int) (bx (n : Int) 8) (fun j hj => by unfold bx; split; rfl; exact (by8_hi8 n j hn (by omega)).symm)] at b2
      go_wp2_with (first | (refine wpList_load_row rfl 24 _ rfl (w.heap.size + 1) rfl 24 _ (0, 0) _ b2 Tryz.underlying24 rfl feInfo ?_) | (refine wpList_store_row rfl 24 _ _ rfl w.heap.size _ rfl rfl 24 _ b1 feInfo rfl (feC_one _) ?_))
      exact bodyPost_ret (results_cell_row Tryz.results93 _ _ w.heap.size 24 (feC (n : Int)) (0, 0) _ rfl (Blk.setRow b1 _) Tryz.underlying24 rfl feInfo) rfl ⟨rfl, c0.setRowNew (Nat.le_refl _) _⟩
set_option maxHeartbeats 4000000 in
set_option maxRecDepth 100000 in
theorem Place_r (d : Int) (hd : 0 ≤ d ∧ d < 9223372036854775808) (w : World) : Calls Tryz.prog 41 #[.int .i64 d] w fun e w' => e = .returned (fe d) ∧ Chg w w' [] := by
  have F0 : Blk (w.alloc (.cells z32 24)) w.heap.size z32 24 := Blk.new w z32 24
  have hc : Chg w (w.alloc (.cells z32 24)) [] := (Chg.refl w []).alloc _
  have e1 : IntKind.u64.wrap d = d := by rw [IntKind.wrap_u64]; omega
  obtain ⟨n, rfl⟩ := Int.eq_ofNat_of_zero_le hd.1
  have hn : n < 18446744073709551616 := by omega
  clear hd
  go_enter Tryz.func41, Tryz.ntmps41
  go_wp2_with fail
  refine (FromInt_q n hn _).mono ?_
  rintro e v1 ⟨rfl, k⟩
  replace F0 := F0.chg k (by simp)
  replace hc := hc.trans1 k
  go_wp2_with (refine wpList_store_row rfl 24 _ _ rfl w.heap.size _ rfl rfl 24 _ F0 feInfo rfl (feC_one _) ?_)
  exact bodyPost_ret (results_cell_row Tryz.results41 _ _ w.heap.size 24 (feC (n : Int)) (0, 0) _ rfl (Blk.setRow F0 _) Tryz.underlying24 rfl feInfo) rfl ⟨rfl, hc.setRowNew (by omega) _⟩
theorem ev_step (f : Nat → Nat) (x : Int) (q N : Nat) (h : q < N) : ma (ev f x (q + 1) (N - (q + 1))) x ((f q : Nat) : Int) = ev f x q (N - q) := by
  obtain ⟨m, hm⟩ : ∃ m, N - q = m + 1 := ⟨N - q - 1, by omega⟩
  rw [show N - (q + 1) = m by omega, hm]; rfl
theorem z32_ev (f : Nat → Nat) (x : Int) (k : Nat) : z32 = feC (ev f x k 0) := by
  have h : z32 = feC 0 := by kernel_rfl
  exact h
set_option maxHeartbeats 8000000 in
set_option maxRecDepth 100000 in
theorem Eval_r (v : Value) (N : Nat) (f : Nat → Nat) (hN : N ≤ 4611686018427387904) (x : Int) (rx : R256 x) (w : World) (hL : Ls w v N f) :
    Calls Tryz.prog 15 #[v, fe x] w fun e w' => e = .returned (fe (ev f x 0 N)) ∧ Chg w w' [] := by
  have HRF : Hid (∀ i, i < N → R256 ((f i : Nat) : Int)) := fun i hi => by have := hL.1 i hi; exact ⟨by omega, by omega⟩
  obtain ⟨p, cp, rfl, hp⟩ := hL.range
  have HP : Hid (∀ i, i < N → ∃ g o, p = some ⟨g, o, none⟩ ∧ g < w.heap.size ∧ w.rangeAt g (o + i * 32) (feL (f i : Nat))) := hp
  have HN : Hid (N ≤ 4611686018427387904) := hN
  have e0 : IntKind.i64.wrap ((N : Int) - 1) = (N : Int) - 1 := by rw [IntKind.wrap_i64]; omega
  have HA : True := trivial
  clear hp hL hN
  go_enter Tryz.func15, Tryz.ntmps15
  go_wp2_with (first
    | (clear HA; with_reducible refine alloc_w rfl 24 rfl (.agg z32) zeroSc z32 rfl ?_; intro rb w2 hrb Br k2)
    | (with_reducible refine alloc_w rfl 24 rfl (.agg z32) zeroSc z32 rfl ?_; intro yb w3 hyb By k3))
  have k1 : Chg w (w.alloc (.cells (feC x) 24)) [] := (Chg.refl w []).alloc _
  have Bx : Blk (w.alloc (.cells (feC x) 24)) w.heap.size (feC x) 24 := Blk.new w _ _
  have HYn : Hid (w.heap.size ≤ yb) := by show w.heap.size ≤ yb; have := k1.size; have := k2.size; omega
  have HRn : Hid (w.heap.size ≤ rb) := by show w.heap.size ≤ rb; have := k1.size; omega
  have hxl := Bx.lt
  have hrl := Br.lt
  have HXY : Hid (¬ w.heap.size ∈ [yb]) := by show ¬ w.heap.size ∈ [yb]; have := k2.size; simp; omega
  have HRY : Hid (¬ rb ∈ [yb]) := by show ¬ rb ∈ [yb]; simp; omega
  have C : Chg w w3 [] := (((Chg.refl w []).trans1 k1).trans1 k2).trans1 k3
  replace Bx := (Bx.chg k2 (by simp)).chg k3 (by simp)
  replace Br := Br.chg k3 (by simp)
  replace By : Blk w3 yb (feC (ev f x N (N - N))) 24 := By.to (by rw [Nat.sub_self]; exact z32_ev f x N)
  clear k1 k2 k3 hrb hyb hxl hrl
  go_loopw [6] (fun t wr => ∃ q : Nat, q ≤ N ∧ t = .int .i64 ((q : Int) - 1) ∧ Blk wr w.heap.size (feC x) 24 ∧ Blk wr rb z32 24 ∧ Blk wr yb (feC (ev f x q (N - q))) 24 ∧ Chg w wr []) (fun t _ => (intOf t + 1).toNat)
  case atStart => exact ⟨N, Nat.le_refl _, rfl, Bx, Br, By, C⟩
  case round =>
    clear Bx Br By C
    obtain ⟨q, hq, rfl, Bx, Br, By, C⟩ := hrel
    rcases q with _ | q
    · have hI : ¬ (0 : Int) ≤ ((0 : Nat) : Int) - 1 := by omega
      rw [Nat.sub_zero] at By
      go_wp2_with (first
        | (refine load_b By 24 _ Tryz.underlying24 rfl rfl rfl rfl feInfo ?_)
        | (refine store_w Br rfl 24 _ _ (feC (ev f x 0 N)) rfl rfl rfl feInfo rfl (feC_one _) ?_; intro w7 B7 k7))
      exact bodyPost_ret (results_cell_row Tryz.results15 _ _ rb 24 (feC (ev f x 0 N)) (0, 0) _ rfl B7 Tryz.underlying24 rfl feInfo) rfl ⟨rfl, C.new k7 HRn.out⟩
    · have eq1 : ((q + 1 : Nat) : Int) - 1 = (q : Int) := by omega
      have hqN : q < N := by omega
      have HQ : Hid (q ≤ N) := by show q ≤ N; omega
      rw [eq1]
      have hI : (0 : Int) ≤ (q : Int) := by omega
      have hI2 : (q : Int) < (N : Int) := by omega
      have e1 : IntKind.i64.wrap ((q : Int) - 1) = (q : Int) - 1 := by have := HN.out; rw [IntKind.wrap_i64]; omega
      have HMs : Hid ((intOf (.int .i64 ((q : Int) - 1)) + 1).toNat < (intOf (.int .i64 (q : Int)) + 1).toNat) := by show (intOf (.int .i64 ((q : Int) - 1)) + 1).toNat < (intOf (.int .i64 (q : Int)) + 1).toNat; simp [intOf] <;> omega
      have HR1 : Hid (R256 (ev f x (q + 1) (N - (q + 1)))) := r256_rl (ev_rl f x _ _)
      have HR2 : Hid (R256 x) := rx
      have HR3 : Hid (R256 ((f q : Nat) : Int)) := HRF.out q hqN
      have HS : Hid (ma (ev f x (q + 1) (N - (q + 1))) x ((f q : Nat) : Int) = ev f x q (N - q)) := ev_step f x q N hqN
      obtain ⟨gp, o, rfl, hg, hF⟩ := HP.out q hqN
      have hF' := rangeAt_chg hF hg C (by simp)
      have HgS : Hid (gp < wr.heap.size) := Nat.lt_of_lt_of_le hg C.size
      have HG : Hid (¬ gp ∈ [yb]) := by have := HYn.out; show ¬ gp ∈ [yb]; simp; omega
      clear hF hg hqN hq HP HRF
      go_wp2_with fail
      refine wp_region_held_drew (S := fun w' => Chg wr w' [yb]) (by kernel_rfl) ((Chg.refl wr _).drew) (fun hHeld => ?_)
      replace By := By.drew
      have C3 := (Chg.refl wr []).drew
      refine take_load 1 (some 15) (feC x) rfl (by kernel_rfl) (by kernel_rfl) (by kernel_rfl) (fun _ _ _ h => h) rfl rfl 24 _ rfl w.heap.size rfl 24 _ (fun w h => Bx.chg h HXY.out) Tryz.underlying24 rfl (by first | exact feInfo | kernel_rfl) hHeld ?_
      try simp only [Act.put, sA1, sA2, sA3]
      refine tv (v := ?_) 2 (some 16) rfl (by kernel_rfl) (fun _ _ _ h => h) rfl rfl (fun w hSw => ?_) hHeld ?_; rotate_left; (· (go_simp; try with_reducible rfl)); try simp only [Act.put, sA1, sA2, sA3]
      refine tv (v := ?_) 3 (some 17) rfl (by kernel_rfl) (fun _ _ _ h => h) rfl rfl (fun w hSw => ?_) hHeld ?_; rotate_left; (· (go_simp; try with_reducible rfl)); try simp only [Act.put, sA1, sA2, sA3]
      refine tv (v := ?_) 4 (some 18) rfl (by kernel_rfl) (fun _ _ _ h => h) rfl rfl (fun w hSw => ?_) hHeld ?_; rotate_left; (· (go_simp; try with_reducible rfl)); try simp only [Act.put, sA1, sA2, sA3]
      refine tv (v := (.agg (feC ((f q : Nat) : Int)))) 5 (some 19) rfl (by kernel_rfl) (fun _ _ _ h => h) rfl rfl (fun w hSw => ?_) hHeld ?_
      · exact exec_load_m w 24 _ rfl gp (o + q * 32) rfl (feL ((f q : Nat) : Int)) _ (rangeAt_chg hF' HgS.out hSw HG.out) Tryz.underlying24 rfl feInfo
      try simp only [Act.put, sA1, sA2, sA3]
      refine wpAnyH_ready (rs := [0]) (by kernel_rfl) (by simp) ?_
      refine AllReadyH.cons (o := _) rfl (fun K hK => ?_) ?_
      ·
        rw [if_pos (by rfl)]
        refine wp_load_row 24 _ rfl yb rfl 24 _ (0, 0) _ By Tryz.underlying24 rfl feInfo ?_
        refine hK.out _ _ (hHeld) (fun hHeld => ?_)
        clear hK K
        try simp only [Act.put, sA1, sA2, sA3]
        refine wpAnyH_ready (rs := [6]) (by kernel_rfl) (by simp) ?_
        refine AllReadyH.cons (o := _) rfl (fun K hK => ?_) ?_
        ·
          go_simp
          refine (MulAdd_q _ _ _ HR1.out HR2.out HR3.out _).mono ?_
          rintro e w6 ⟨rfl, k6⟩
          rw [HS.out]
          go_wp2_with fail
          refine hK.out _ _ (hHeld.trans1 k6.wide) (fun hHeld => ?_)
          clear hK K
          try simp only [Act.put, sA1, sA2, sA3]
          refine wpAnyH_ready (rs := [7]) (by kernel_rfl) (by simp) ?_
          refine AllReadyH.cons (o := _) rfl (fun K hK => ?_) ?_
          ·
            rw [if_pos (by rfl)]
            refine wp_store_w (By.chg k6 (by simp)) 24 _ _ (feC (ev f x q (N - q))) rfl rfl rfl feInfo rfl (feC_one _) ?_
            intro w7 By7 k7
            refine hK.out _ _ (hHeld.trans1 k7) (fun hHeld => ?_)
            clear hK K
            try simp only [Act.put, sA1, sA2, sA3]
            refine wpAnyH_done (by kernel_rfl) ?_ _
            replace C := ((C.trans1 C3).trans1 k6).new k7 HYn.out
            replace Bx := Bx.chg hHeld HXY.out
            replace Br := Br.chg hHeld HRY.out
            clear k6 k7 C3 hHeld By
            go_wp2_with fail
            exact ⟨⟨q, HQ.out, rfl, Bx, Br, By7, C⟩, HMs.out⟩
          exact AllReadyH.nil
        exact AllReadyH.nil
      exact AllReadyH.nil

theorem idE_pre {f : Nat → Int} {k N : Nat} {e : Int} (hk : k ≤ N) (h : idE f k = e) (he : ¬ e = 0) (hN : ¬ N = 0) : idR f N = e := by
  unfold idR; rw [if_neg hN, idE_stays f (k := k) (by rw [h]; exact he) N hk, h]
theorem kn_false {f : Nat → Int} {i : Nat} {n : Nat} (hn : f i = (n : Int)) (h : ∀ j, j < i → ¬ f j = f i) : kn f i n = false := by
  unfold kn; rw [List.any_eq_false]; intro j hj; have := h j (List.mem_range.1 hj); rw [hn] at this; simpa using this
theorem kn_true {f : Nat → Int} {i k : Nat} {n : Nat} (hn : f i = (n : Int)) (hk : k < i) (h : f k = f i) : kn f i n = true := by
  unfold kn; rw [List.any_eq_true]; exact ⟨k, List.mem_range.2 hk, by rw [h, hn]; simp⟩
set_option maxHeartbeats 8000000 in
set_option maxRecDepth 100000 in
theorem IDs_r (v : Value) (N : Nat) (f : Nat → Int) (hN : N ≤ 4611686018427387904) (w : World) (hL : Il w v N f) :
    Calls Tryz.prog 45 #[v] w fun e w' => e = .returned (.int .i64 (idR f N)) ∧ Chg w w' [] := by
  obtain ⟨p, cp, rfl, hp⟩ := hL.form
  have HN : Hid (N ≤ 4611686018427387904) := hN
  have HP : Hid (∀ i, i < N → ∃ g o, p = some ⟨g, o, none⟩ ∧ g < w.heap.size ∧ w.cell? ⟨g, o + i, none⟩ = some (.int .i64 (f i))) := hp
  clear hp hL hN
  go_enter Tryz.func45, Tryz.ntmps45
  by_cases hZ : N = 0
  · subst hZ
    go_wp2_with fail
    go_ret
    exact ⟨rfl, Chg.refl w []⟩
  have hz : ¬ (N : Int) = 0 := by omega
  have HZ : Hid (¬ N = 0) := hZ
  clear hZ
  go_wp2_with fail
  go_loopw [3] (fun t wr => ∃ i : Nat, i ≤ N ∧ t = .int .i64 (i : Int) ∧ idE f i = 0 ∧ Chg w wr []) (fun t _ => (N - intOf t).toNat)
  case atStart => exact ⟨0, Nat.zero_le _, rfl, rfl, Chg.refl w []⟩
  case round =>
    obtain ⟨i, hi, rfl, hE, C⟩ := hrel
    by_cases h : i < N
    · have hI : (i : Int) < (N : Int) := by omega
      have hI0 : (0 : Int) ≤ (i : Int) := by omega
      have e1 : IntKind.i64.wrap ((i : Int) + 1) = (i : Int) + 1 := by have := HN.out; rw [IntKind.wrap_i64]; omega
      have HMs : Hid _ := mN N i h
      have HIN : Hid (i + 1 ≤ N) := h
      have HE : Hid (idE f i = 0) := hE
      obtain ⟨g, o, rfl, hg, hc⟩ := HP.out i h
      have HPg : Hid (∀ j, j < N → w.cell? ⟨g, o + j, none⟩ = some (.int .i64 (f j))) := fun j hj => by
        obtain ⟨g', o', e, _, q⟩ := HP.out j hj
        simp only [Option.some.injEq, Addr.mk.injEq, and_true] at e
        obtain ⟨rfl, rfl⟩ := e
        exact q
      have HGw : Hid (g < w.heap.size) := hg
      have hc' := cell_chg hc hg C (by simp)
      clear h hi hE hc hg HP
      by_cases h1 : 1 ≤ f i
      · by_cases h2 : f i ≤ 255
        · obtain ⟨n, hn⟩ := Int.eq_ofNat_of_zero_le (show 0 ≤ f i by omega)
          have HN1 : Hid (f i = (n : Int)) := hn
          have HB : Hid (1 ≤ f i ∧ f i ≤ 255) := ⟨h1, h2⟩
          clear hn
          go_wp2_with fail
          clear h1 h2 hc'
          go_loopw [4] (fun t wr => ∃ k : Nat, k ≤ i ∧ t = .int .i64 (k : Int) ∧ (∀ j, j < k → ¬ f j = f i) ∧ Chg w wr []) (fun t _ => (i - intOf t).toNat)
          case atStart => exact ⟨0, Nat.zero_le _, rfl, fun j hj => by omega, C⟩
          case round =>
            clear C
            obtain ⟨k, hk, rfl, hK, C⟩ := hrel
            by_cases h : k < i
            · have hI3 : (k : Int) < (i : Int) := by omega
              have hI4 : (0 : Int) ≤ (k : Int) := by omega
              have hI5 : (k : Int) < (N : Int) := by omega
              have e2 : IntKind.i64.wrap ((k : Int) + 1) = (k : Int) + 1 := by have := HN.out; have := HIN.out; rw [IntKind.wrap_i64]; omega
              have HMk : Hid _ := mN i k h
              have HKi : Hid (k + 1 ≤ i) := h
              have HK : Hid (wr.cell? ⟨g, o + k, none⟩ = some (.int .i64 (f k))) := cell_chg (HPg.out k (by have := HIN.out; omega)) HGw.out C (by simp)
              have HI : Hid (wr.cell? ⟨g, o + i, none⟩ = some (.int .i64 (f i))) := cell_chg (HPg.out i (by have := HIN.out; omega)) HGw.out C (by simp)
              have HGl : Hid (g < wr.heap.size) := Nat.lt_of_lt_of_le HGw.out C.size
              by_cases hq : f k = f i
              · have HE5 : Hid (idR f N = 5) := idE_pre HIN.out (idE_twice HE.out HB.out HN1.out (kn_true HN1.out HKi.out hq)) (by decide) HZ.out
                clear h hk hK
                go_wp2_with fail
                refine wp_region_held_drew (S := fun w' => Chg wr w' []) (by kernel_rfl) ((Chg.refl wr _).drew) (fun hHeld => ?_)
                refine tv (v := ?_) 0 (some 31) rfl (by kernel_rfl) (fun _ _ _ h => h) rfl rfl (fun w hSw => ?_) hHeld ?_; rotate_left; (· (go_simp; try with_reducible rfl)); try simp only [Act.put, sA1, sA2, sA3]
                refine tv (v := ?_) 1 (some 32) rfl (by kernel_rfl) (fun _ _ _ h => h) rfl rfl (fun w hSw => ?_) hHeld ?_; rotate_left; (· (go_simp; try with_reducible rfl)); try simp only [Act.put, sA1, sA2, sA3]
                refine tv (v := ?_) 2 (some 33) rfl (by kernel_rfl) (fun _ _ _ h => h) rfl rfl (fun w hSw => ?_) hHeld ?_; rotate_left; (· (go_simp; try with_reducible rfl)); try simp only [Act.put, sA1, sA2, sA3]
                refine tv (v := (.int .i64 (f k))) 3 (some 34) rfl (by kernel_rfl) (fun _ _ _ h => h) rfl rfl (fun w hSw => ?_) hHeld ?_
                · have cx := cell_chg HK.out HGl.out hSw (by simp)
                  (go_simp; try with_reducible rfl)
                try simp only [Act.put, sA1, sA2, sA3]
                refine tv (v := ?_) 4 (some 35) rfl (by kernel_rfl) (fun _ _ _ h => h) rfl rfl (fun w hSw => ?_) hHeld ?_; rotate_left; (· (go_simp; try with_reducible rfl)); try simp only [Act.put, sA1, sA2, sA3]
                refine tv (v := ?_) 5 (some 36) rfl (by kernel_rfl) (fun _ _ _ h => h) rfl rfl (fun w hSw => ?_) hHeld ?_; rotate_left; (· (go_simp; try with_reducible rfl)); try simp only [Act.put, sA1, sA2, sA3]
                refine tv (v := ?_) 6 (some 37) rfl (by kernel_rfl) (fun _ _ _ h => h) rfl rfl (fun w hSw => ?_) hHeld ?_; rotate_left; (· (go_simp; try with_reducible rfl)); try simp only [Act.put, sA1, sA2, sA3]
                refine tv (v := (.int .i64 (f i))) 7 (some 38) rfl (by kernel_rfl) (fun _ _ _ h => h) rfl rfl (fun w hSw => ?_) hHeld ?_
                · have cx := cell_chg HI.out HGl.out hSw (by simp)
                  (go_simp; try with_reducible rfl)
                try simp only [Act.put, sA1, sA2, sA3]
                refine tv (v := ?_) 8 (some 39) rfl (by kernel_rfl) (fun _ _ _ h => h) rfl rfl (fun w hSw => ?_) hHeld ?_; rotate_left; (· (go_simp; try with_reducible rfl)); try simp only [Act.put, sA1, sA2, sA3]
                refine wpAnyH_done (by kernel_rfl) ?_ _
                replace C := C.trans1 hHeld
                clear hHeld
                go_wp2_with fail
                go_ret
                exact ⟨by rw [HE5.out]; rfl, C⟩
              · have HNk : Hid (∀ j, j < k + 1 → ¬ f j = f i) := fun j hj => by
                  by_cases h9 : j = k
                  · rw [h9]; exact hq
                  · exact hK j (by omega)
                clear h hk hK
                go_wp2_with fail
                refine wp_region_held_drew (S := fun w' => Chg wr w' []) (by kernel_rfl) ((Chg.refl wr _).drew) (fun hHeld => ?_)
                refine tv (v := ?_) 0 (some 31) rfl (by kernel_rfl) (fun _ _ _ h => h) rfl rfl (fun w hSw => ?_) hHeld ?_; rotate_left; (· (go_simp; try with_reducible rfl)); try simp only [Act.put, sA1, sA2, sA3]
                refine tv (v := ?_) 1 (some 32) rfl (by kernel_rfl) (fun _ _ _ h => h) rfl rfl (fun w hSw => ?_) hHeld ?_; rotate_left; (· (go_simp; try with_reducible rfl)); try simp only [Act.put, sA1, sA2, sA3]
                refine tv (v := ?_) 2 (some 33) rfl (by kernel_rfl) (fun _ _ _ h => h) rfl rfl (fun w hSw => ?_) hHeld ?_; rotate_left; (· (go_simp; try with_reducible rfl)); try simp only [Act.put, sA1, sA2, sA3]
                refine tv (v := (.int .i64 (f k))) 3 (some 34) rfl (by kernel_rfl) (fun _ _ _ h => h) rfl rfl (fun w hSw => ?_) hHeld ?_
                · have cx := cell_chg HK.out HGl.out hSw (by simp)
                  (go_simp; try with_reducible rfl)
                try simp only [Act.put, sA1, sA2, sA3]
                refine tv (v := ?_) 4 (some 35) rfl (by kernel_rfl) (fun _ _ _ h => h) rfl rfl (fun w hSw => ?_) hHeld ?_; rotate_left; (· (go_simp; try with_reducible rfl)); try simp only [Act.put, sA1, sA2, sA3]
                refine tv (v := ?_) 5 (some 36) rfl (by kernel_rfl) (fun _ _ _ h => h) rfl rfl (fun w hSw => ?_) hHeld ?_; rotate_left; (· (go_simp; try with_reducible rfl)); try simp only [Act.put, sA1, sA2, sA3]
                refine tv (v := ?_) 6 (some 37) rfl (by kernel_rfl) (fun _ _ _ h => h) rfl rfl (fun w hSw => ?_) hHeld ?_; rotate_left; (· (go_simp; try with_reducible rfl)); try simp only [Act.put, sA1, sA2, sA3]
                refine tv (v := (.int .i64 (f i))) 7 (some 38) rfl (by kernel_rfl) (fun _ _ _ h => h) rfl rfl (fun w hSw => ?_) hHeld ?_
                · have cx := cell_chg HI.out HGl.out hSw (by simp)
                  (go_simp; try with_reducible rfl)
                try simp only [Act.put, sA1, sA2, sA3]
                refine tv (v := ?_) 8 (some 39) rfl (by kernel_rfl) (fun _ _ _ h => h) rfl rfl (fun w hSw => ?_) hHeld ?_; rotate_left; (· (go_simp; try with_reducible rfl)); try simp only [Act.put, sA1, sA2, sA3]
                refine wpAnyH_done (by kernel_rfl) ?_ _
                replace C := C.trans1 hHeld
                clear hHeld
                go_wp2_with fail
                go_roundw
                case rel => exact ⟨k + 1, HKi.out, by go_num, HNk.out, C⟩
                case measure => exact HMk.out
            · obtain rfl : k = i := by omega
              have hI3 : ¬ (k : Int) < (k : Int) := by omega
              have HE0 : Hid (idE f (k + 1) = 0) := idE_ok HE.out HB.out HN1.out (kn_false HN1.out hK)
              clear h hk hK
              go_wp2_with fail
              exact ⟨⟨k + 1, HIN.out, by omega, HE0.out⟩, by have := HMs.out; omega⟩
        · have HE4 : Hid (idR f N = 4) := idE_pre HIN.out (idE_bad HE.out (fun h => h2 h.2)) (by decide) HZ.out
          go_wp2_with fail
          go_ret
          exact ⟨by rw [HE4.out]; rfl, C⟩
      · have HE4 : Hid (idR f N = 4) := idE_pre HIN.out (idE_bad HE.out (fun h => h1 h.1)) (by decide) HZ.out
        go_wp2_with fail
        go_ret
        exact ⟨by rw [HE4.out]; rfl, C⟩
    · obtain rfl : i = N := by omega
      have hI : ¬ (i : Int) < (i : Int) := by omega
      go_wp2_with fail
      go_ret
      exact ⟨by unfold idR; rw [if_neg HZ.out, hE]; rfl, C⟩
end Go.Proofs.YtoafcaieifjoiaaGreat
