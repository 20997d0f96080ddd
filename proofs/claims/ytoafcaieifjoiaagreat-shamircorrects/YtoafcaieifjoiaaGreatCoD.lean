/- shamir.eliminate. -/
import Derived.Test.YtoafcaieifjoiaaGreatMgN
import Derived.Test.YtoafcaieifjoiaaGreatMgI
import Derived.Test.YtoafcaieifjoiaaGreatMgH
set_option linter.unusedVariables false
set_option linter.unusedSimpArgs false
set_option linter.unnecessarySimpa false
namespace Go.Proofs.YtoafcaieifjoiaaGreat
open Go.RowKit N

def zR (R : Nat → Nat → Int) : haveI := LN_nz; Nat → Nat → Fin LN := haveI := LN_nz; fun i j => zq LN (R i j)
/-- The rows say the same, and the columns ahead of c have their rows. -/
def ElQ (R0 R : Nat → Nat → Int) (M W c : Nat) : Prop := haveI := LN_nz; Q.Inv (zR R) M c ∧ ∀ v : Nat → Fin LN, Q.Ker (zR R) M W v ↔ Q.Ker (zR R0) M W v
theorem ElQ.refl (R : Nat → Nat → Int) (M W : Nat) : ElQ R R M W 0 := ⟨fun k hk => absurd hk (Nat.not_lt_zero _), fun _ => Iff.rfl⟩
theorem ElQ.le {R0 R : Nat → Nat → Int} {M W c : Nat} (h : ElQ R0 R M W c) : c ≤ M := by
  haveI := LN_nz
  rcases c with _ | c
  · exact Nat.zero_le _
  · exact (h.1 c (by omega)).1
theorem ker_congr {n : Nat} [NeZero n] {R R' : Nat → Nat → Fin n} {M W : Nat} (e : ∀ i j, i < M → j < W → R i j = R' i j) (v : Nat → Fin n) : Q.Ker R M W v ↔ Q.Ker R' M W v := by
  constructor
  · intro h i hi
    rw [← h i hi]; exact Q.sm_congr fun j hj => by rw [e i j hi hj]
  · intro h i hi
    rw [← h i hi]; exact Q.sm_congr fun j hj => by rw [e i j hi hj]
theorem inv_congr {n : Nat} [NeZero n] {R R' : Nat → Nat → Fin n} {M W c : Nat} (hc : c ≤ W) (e : ∀ i j, i < M → j < W → R i j = R' i j) (h : Q.Inv R M c) : Q.Inv R' M c := fun k hk => by
  obtain ⟨a, b, d⟩ := h k hk
  exact ⟨a, by rw [← e k k a (by omega)]; exact b, fun i hi hik => by rw [← e i k hi (by omega)]; exact d i hi hik⟩
theorem swp_c (c r : Nat) : Q.swp c r c = r := if_pos rfl
theorem nz_dvd {x : Int} (h : RL x) (hnz : eqn (cn x) 0 = false) : ¬ LN ∣ x.toNat := fun hd => by
  have h2 : x.toNat < LN := by have := h.2; have e := LN_eq; unfold L at e; have := h.1; omega
  have h3 := Nat.eq_zero_of_dvd_of_lt hd h2
  have h4 : x = 0 := by have := h.1; omega
  subst h4
  revert hnz
  have e : cn 0 = 0 := by unfold cn; rfl
  rw [e, eqn_eq ⟨by decide, by decide⟩ ⟨by decide, by decide⟩]
  simp
theorem zq_ivm {x : Int} (h : RL x) (hnz : eqn (cn x) 0 = false) : haveI := LN_nz; zq LN x * zq LN (iv x) = 1 := by
  haveI := LN_nz
  have hm := iv_mul x.toNat (nz_dvd h hnz)
  rw [Int.toNat_of_nonneg h.1] at hm
  rw [← zq_mul, Int.mul_comm, ← zq_L L_LN, hm]
  exact zq_1
theorem zR_clI {R : Nat → Nat → Int} {c : Nat} {V : Int} (h0 : haveI := LN_nz; ∀ j, j < c → zq LN (R c j) = 0) (i j : Nat) : haveI := LN_nz; zR (clI R c V) i j = Q.clr (zR R) c (zq LN V) i j := by
  haveI := LN_nz
  unfold zR clI Q.clr
  by_cases h : j < c
  · simp only [if_pos h]
    by_cases e : i = c
    · subst e; rw [if_pos rfl, h0 j h]; grind
    · rw [if_neg e, h0 j h]; grind
  · simp only [if_neg h]
    by_cases e : i = c
    · subst e; rw [if_pos rfl, if_pos rfl, zq_ml L_LN]
    · rw [if_neg e, if_neg e, zq_ma L_LN, zq_ml L_LN, zq_ng L_LN]; grind
theorem elq_step {R0 R1 : Nat → Nat → Int} {M W c r : Nat} (h : ElQ R0 R1 M W c) (hc : c < M) (hcr : c ≤ r) (hr : r < M) (hcW : c < W) (hrl : ∀ i j, i < M → j < W → RL (R1 (Q.swp c r i) j)) (hnz : eqn (cn (R1 r c)) 0 = false) :
    ElQ R0 (clI (fun i => R1 (Q.swp c r i)) c (iv (R1 (Q.swp c r c) c))) M W (c + 1) := by
  haveI := LN_nz
  have hi := Q.el_swap_inv hc hcr hr h.1
  have hu : zR (fun i => R1 (Q.swp c r i)) c c * zq LN (iv (R1 (Q.swp c r c) c)) = 1 := zq_ivm (hrl c c hc hcW) (by show eqn (cn (R1 (Q.swp c r c) c)) 0 = false; rw [swp_c]; exact hnz)
  have hz : ∀ i j, zR (clI (fun i => R1 (Q.swp c r i)) c (iv (R1 (Q.swp c r c) c))) i j = Q.clr (zR (fun i => R1 (Q.swp c r i))) c (zq LN (iv (R1 (Q.swp c r c) c))) i j := zR_clI fun j hj => (hi j hj).2.2 c hc (by omega)
  refine ⟨inv_congr (W := W) (by omega) (fun i j _ _ => (hz i j).symm) (Q.el_clear_inv hc hu hi), fun v => ?_⟩
  rw [ker_congr (fun i j _ _ => hz i j) v, Q.el_clear hc hu v]
  exact (Q.el_swap hc hr v).trans (h.2 v)
/-- One row's place is written. -/
theorem wp_store_rwc {w : World} {op : Oper} {a : Act} {K : Act → World → Prop} {Q : Exit → Act → World → Prop} (x y : Operand) (ho : op.op = .store 22 x y) (b M W i g c : Nat) (q cp : Nat → Nat) (hx : a.eval x = .pointer (some ⟨b, i, none⟩)) (hy : a.eval y = .slice (some ⟨g, 0, none⟩) W c) (hb : Blk w b (rL 1 M (rwF q cp W)).toArray 22) (hi : i < M)
    (h : ∀ w', Blk w' b (rL 1 M (rwF (fun k => if k = i then g else q k) (fun k => if k = i then c else cp k) W)).toArray 22 → Chg w w' [b] → K (a.put op.dst undef) w') : op.wp Tryz.prog a w K Q := by
  have hc : w.cell? ⟨b, i, none⟩ = some (.slice (some ⟨q i, 0, none⟩) W (cp i)) := by
    have e := rL_get (rwF_ok M q cp W) hi (show 0 < 1 by omega)
    rw [Nat.mul_one, Nat.add_zero] at e
    rw [hb.cell, List.getElem?_toArray, e]; rfl
  have hz : w.frozen? ⟨b, i, none⟩ = false := hb.frozen i
  have hI : (Tryz.prog.info? 22).map (·.size) = some 1 := by kernel_rfl
  have hr : (Instr.storeAt 22 (.pointer (some ⟨b, i, none⟩)) (.slice (some ⟨g, 0, none⟩) W c)).run Tryz.prog w = .ok () (w.setCell ⟨b, i, none⟩ (.slice (some ⟨g, 0, none⟩) W c)) := by
    cases hi : Tryz.prog.info? 22 with
    | none => rw [hi] at hI; cases hI
    | some i =>
      rw [hi] at hI
      have hs : i.size = 1 := by simpa using hI
      simp [go_sem, hc, hz, hi, hs]
  unfold Oper.wp execOp
  simp only [ho, hx, hy, Sem.run_bind, hr, Sem.run_pure, Result.andThen_ok]
  refine h _ ((hb.setCell i _).to ?_) ((Chg.refl w [b]).setIn (by simp) i _)
  apply Array.ext_getElem?
  intro k
  rw [Array.getElem?_setIfInBounds]
  by_cases hk : k < M
  · have e1 := rL_get (rwF_ok M q cp W) hk (show 0 < 1 by omega)
    have e2 := rL_get (rwF_ok M (fun k => if k = i then g else q k) (fun k => if k = i then c else cp k) W) hk (show 0 < 1 by omega)
    rw [Nat.mul_one, Nat.add_zero] at e1 e2
    rw [List.getElem?_toArray, List.getElem?_toArray, e1, e2]
    by_cases e : i = k
    · subst e
      rw [if_pos rfl, if_pos (by rw [List.size_toArray, rL_len]; omega)]
      unfold rwF; simp
    · rw [if_neg e]
      unfold rwF; simp [show ¬ k = i from fun x => e x.symm]
  · rw [if_neg (by omega), List.getElem?_toArray, List.getElem?_toArray, List.getElem?_eq_none (by rw [rL_len]; omega), List.getElem?_eq_none (by rw [rL_len]; omega)]
theorem wp_load_cell {w : World} {op : Oper} {a : Act} {K : Act → World → Prop} {Q : Exit → Act → World → Prop} (x : Operand) (ho : op.op = .load 22 x) (b o : Nat) (v : Value) (hx : a.eval x = .pointer (some ⟨b, o, none⟩)) (hc : w.cell? ⟨b, o, none⟩ = some v) (h : K (a.put op.dst v) w) : op.wp Tryz.prog a w K Q := by
  have hr : (Instr.loadAt 22 (.pointer (some ⟨b, o, none⟩))).run Tryz.prog w = .ok v w := by
    have hu := Tryz.underlying22
    simp [go_sem, hc, hu]
  unfold Oper.wp execOp
  simp only [ho, hx, Sem.run_bind, hr, Sem.run_pure, Result.andThen_ok]
  exact h
theorem Mx.swap {w0 w w' : World} {rb M W : Nat} {q cp : Nat → Nat} {R : Nat → Nat → Int} (h : Mx w0 w rb M W q cp R) {c r : Nat} (hc : c < M) (hr : r < M) (k : Chg w w' [rb])
    (hb : Blk w' rb (rL 1 M (rwF (fun k => if k = r then q c else (fun k => if k = c then q r else q k) k) (fun k => if k = r then cp c else (fun k => if k = c then cp r else cp k) k) W)).toArray 22) :
    Mx w0 w' rb M W (fun i => q (Q.swp c r i)) (fun i => cp (Q.swp c r i)) (fun i => R (Q.swp c r i)) := by
  have hs : ∀ f : Nat → Nat, ∀ i, (if i = r then f c else if i = c then f r else f i) = f (Q.swp c r i) := fun f i => by
    unfold Q.swp
    by_cases e : i = r
    · subst e
      rw [if_pos rfl]
      by_cases e2 : i = c
      · subst e2; rw [if_pos rfl]
      · rw [if_neg e2, if_pos rfl]
    · rw [if_neg e]
      by_cases e2 : i = c
      · rw [if_pos e2, if_pos e2]
      · rw [if_neg e2, if_neg e2, if_neg e]
  have hl : ∀ i, i < M → Q.swp c r i < M := fun i hi => Q.swp_lt hc hr hi
  refine ⟨hb.to (congrArg List.toArray (rL_congr fun i _ => ?_)), fun i hi => (h.row _ (hl i hi)).chg k (by have := h.ne _ (hl i hi); simp; exact this), fun i hi => h.cap _ (hl i hi), fun i hi => h.ne _ (hl i hi), fun i j hi hj e => ?_, fun i j hi hj => h.rl _ j (hl i hi) hj, h.base, fun i hi => h.bases _ (hl i hi), h.chg.new k h.base⟩
  · show [Value.slice (some ⟨if i = r then q c else if i = c then q r else q i, 0, none⟩) W (if i = r then cp c else if i = c then cp r else cp i)] = [Value.slice (some ⟨q (Q.swp c r i), 0, none⟩) W (cp (Q.swp c r i))]
    rw [hs q i, hs cp i]
  · have e2 := congrArg (Q.swp c r) (h.inj _ _ (hl i hi) (hl j hj) e)
    rwa [Q.swp_swp, Q.swp_swp] at e2
set_option maxHeartbeats 16000000 in
set_option maxRecDepth 100000 in
theorem eliminate_g (rb M W : Nat) (hW0 : 0 < W) (hW : W ≤ 255) (hM : M ≤ 255) (q cp : Nat → Nat) (R : Nat → Nat → Int) (w0 w : World) (h0 : Mx w0 w rb M W q cp R) :
    Calls Tryz.prog 116 #[.slice (some ⟨rb, 0, none⟩) M M, .int .i64 (W : Int)] w fun e w' => ∃ c q' cp' R', e = .returned (.int .i64 ((c : Nat) : Int)) ∧ c ≤ W ∧ Mx w0 w' rb M W q' cp' R' ∧ ElQ R R' M W c ∧ (c < W → ∀ i, c ≤ i → i < M → R' i c = 0) := by
  have HB : Hid (W ≤ 255 ∧ M ≤ 255) := ⟨hW, hM⟩
  have hWi0 : (0 : Int) < (W : Int) := by omega
  clear hW hM
  go_enter Tryz.func116, Tryz.ntmps116
  go_wp2_with fail
  go_step3
  go_wp2_with fail
  go_step3
  go_wp2_with fail
  go_loopw [5] (fun t wo => ∃ (c : Nat) (q1 cp1 : Nat → Nat) (R1 : Nat → Nat → Int), c ≤ W ∧ t = .int .i64 (c : Int) ∧ Mx w0 wo rb M W q1 cp1 R1 ∧ ElQ R R1 M W c) (fun t _ => (W - intOf t).toNat)
  case atStart => exact ⟨0, q, cp, R, Nat.zero_le _, rfl, h0, ElQ.refl R M W⟩
  case round =>
    clear h0 q cp
    obtain ⟨c, q, cp, R1, hc, rfl, M1, HE'⟩ := hrel
    have HE : Hid (ElQ R R1 M W c) := HE'
    clear HE'
    by_cases h : c < W
    · have hci : (c : Int) < (W : Int) := by omega
      have hc0 : (0 : Int) ≤ (c : Int) := by omega
      have HCW : Hid (c < W) := h
      have HMo : Hid _ := mN W c h
      have e1 : IntKind.i64.wrap ((c : Int) + 1) = (c : Int) + 1 := by have := HB.out; rw [IntKind.wrap_i64]; omega
      have hWcp : True := trivial
      clear h hc
      go_wp2_with fail
      go_loopw [6] (fun t wi => ∃ r : Nat, c ≤ r ∧ r ≤ M ∧ t = .int .i64 (r : Int) ∧ Mx w0 wi rb M W q cp R1 ∧ ∀ i, c ≤ i → i < r → R1 i c = 0) (fun t _ => (M - intOf t).toNat)
      case atStart => exact ⟨c, Nat.le_refl _, HE.out.le, rfl, M1, fun i h1 h2 => by omega⟩
      case round =>
        clear M1
        obtain ⟨r, hcr, hrM, rfl, Mr, Hz⟩ := hrel
        by_cases h : r < M
        · have HC : Hid (c < M ∧ c ≤ r) := ⟨by omega, hcr⟩
          have HR : Hid (r < M) := h
          have hri : (r : Int) < (M : Int) := by omega
          have hr0 : (0 : Int) ≤ (r : Int) := by omega
          have hrne : ¬ (r : Int) = (M : Int) := by omega
          have hcMi : (c : Int) < (M : Int) := by omega
          have HMr : Hid _ := mN M r h
          have e2 : IntKind.i64.wrap ((r : Int) + 1) = (r : Int) + 1 := by have := HB.out; rw [IntKind.wrap_i64]; omega
          have h2 : wr.cell? ⟨rb, r, none⟩ = some (.slice (some ⟨q r, 0, none⟩) W (cp r)) := Mr.cell h
          have hrg2 : wr.rangeAt (q r) (c * 32) (feL (R1 r c)) := Mr.range h HCW.out
          have HRr : Hid (RL (R1 r c)) := Mr.rl r c h HCW.out
          have HEQ : Hid (eqn (cn (R1 r c)) 0 = decide (R1 r c = 0)) := by
            have e2 : cn (R1 r c) = R1 r c := mod_id HRr.out
            show eqn (cn (R1 r c)) 0 = decide (R1 r c = 0)
            rw [e2, eqn_eq HRr.out ⟨by decide, by decide⟩]
          have HHz : Hid (∀ i, c ≤ i → i < r → R1 i c = 0) := Hz
          clear h hcr hrM Hz
          go_wp2_with (refine load_sc rfl _ rfl (q r) (c * 32) (R1 r c) rfl hrg2 ?_)
          --CUT0
          by_cases hz : R1 r c = 0
          · refine (IsZero_is (R1 r c) (r256_rl HRr.out) true (by rw [HEQ.out]; exact decide_eq_true hz) wr).mono ?_
            rintro e w2 ⟨rfl, k⟩
            replace Mr := Mr.keep k
            have HZ : Hid (R1 r c = 0) := hz
            clear k hz h2 hrg2 HEQ
            go_wp2_with fail
            go_roundw
            case rel => exact ⟨r + 1, by have := HC.out; omega, HR.out, by go_num, Mr, fun i a b => by
              by_cases e : i = r
              · rw [e]; exact HZ.out
              · exact HHz.out i a (by omega)⟩
            case measure => exact HMr.out
          · have HNZ : Hid (eqn (cn (R1 r c)) 0 = false) := by show eqn (cn (R1 r c)) 0 = false; rw [HEQ.out]; exact decide_eq_false hz
            refine (IsZero_is (R1 r c) (r256_rl HRr.out) false HNZ.out wr).mono ?_
            rintro e w2 ⟨rfl, k⟩
            have M2 := Mr.keep k
            clear k hz HEQ Mr HMr HHz
            go_wp2_with fail
            --CUT1
            refine wp_region_held_drew (S := fun w' => Chg w2 w' [rb]) (by kernel_rfl) ((Chg.refl w2 _).drew) (fun hHeld => ?_)
            replace M2 := M2.drew
            refine tv (v := ?_) 0 (some 28) rfl (by kernel_rfl) (fun _ _ _ h => h) rfl rfl (fun w hSw => ?_) hHeld ?_; rotate_left; (· (go_simp; try with_reducible rfl)); try simp only [Act.put, sA1, sA2, sA3]
            refine tv (v := ?_) 1 (some 29) rfl (by kernel_rfl) (fun _ _ _ h => h) rfl rfl (fun w hSw => ?_) hHeld ?_; rotate_left; (· (go_simp; try with_reducible rfl)); try simp only [Act.put, sA1, sA2, sA3]
            refine tv (v := ?_) 2 (some 30) rfl (by kernel_rfl) (fun _ _ _ h => h) rfl rfl (fun w hSw => ?_) hHeld ?_; rotate_left; (· (go_simp; try with_reducible rfl)); try simp only [Act.put, sA1, sA2, sA3]
            refine tv (v := ?_) 3 (some 31) rfl (by kernel_rfl) (fun _ _ _ h => h) rfl rfl (fun w hSw => ?_) hHeld ?_; rotate_left; (· (go_simp; try with_reducible rfl)); try simp only [Act.put, sA1, sA2, sA3]
            refine tv (v := ?_) 4 (some 32) rfl (by kernel_rfl) (fun _ _ _ h => h) rfl rfl (fun w hSw => ?_) hHeld ?_; rotate_left; (· (go_simp; try with_reducible rfl)); try simp only [Act.put, sA1, sA2, sA3]
            refine tv (v := ?_) 5 (some 33) rfl (by kernel_rfl) (fun _ _ _ h => h) rfl rfl (fun w hSw => ?_) hHeld ?_; rotate_left; (· (go_simp; try with_reducible rfl)); try simp only [Act.put, sA1, sA2, sA3]
            refine tv (v := ?_) 6 (some 34) rfl (by kernel_rfl) (fun _ _ _ h => h) rfl rfl (fun w hSw => ?_) hHeld ?_; rotate_left; (· (go_simp; try with_reducible rfl)); try simp only [Act.put, sA1, sA2, sA3]
            refine tv (v := ?_) 8 (some 36) rfl (by kernel_rfl) (fun _ _ _ h => h) rfl rfl (fun w hSw => ?_) hHeld ?_; rotate_left; (· (go_simp; try with_reducible rfl)); try simp only [Act.put, sA1, sA2, sA3]
            refine tv (v := ?_) 9 (some 37) rfl (by kernel_rfl) (fun _ _ _ h => h) rfl rfl (fun w hSw => ?_) hHeld ?_; rotate_left; (· (go_simp; try with_reducible rfl)); try simp only [Act.put, sA1, sA2, sA3]
            refine tv (v := ?_) 10 (some 38) rfl (by kernel_rfl) (fun _ _ _ h => h) rfl rfl (fun w hSw => ?_) hHeld ?_; rotate_left; (· (go_simp; try with_reducible rfl)); try simp only [Act.put, sA1, sA2, sA3]
            refine wpAnyH_ready (rs := [7, 11]) (by kernel_rfl) (by simp) ?_
            refine AllReadyH.cons (o := _) rfl (fun K hK => ?_) ?_
            ·
              rw [if_pos (by rfl)]
              refine wp_load_cell _ rfl rb r _ rfl (M2.cell HR.out) ?_
              refine hK.out _ _ (hHeld) (fun hHeld => ?_)
              clear hK K
              try simp only [Act.put, sA1, sA2, sA3]
              refine wpAnyH_ready (rs := [11]) (by kernel_rfl) (by simp) ?_
              refine AllReadyH.cons (o := _) rfl (fun K hK => ?_) ?_
              ·
                rw [if_pos (by rfl)]
                refine wp_load_cell _ rfl rb c _ rfl (M2.cell HC.out.1) ?_
                refine hK.out _ _ (hHeld) (fun hHeld => ?_)
                clear hK K
                try simp only [Act.put, sA1, sA2, sA3]
                refine tv (v := ?_) 12 (some 40) rfl (by kernel_rfl) (fun _ _ _ h => h) rfl rfl (fun w hSw => ?_) hHeld ?_; rotate_left; (· (go_simp; try with_reducible rfl)); try simp only [Act.put, sA1, sA2, sA3]
                refine wpAnyH_ready (rs := [13]) (by kernel_rfl) (by simp) ?_
                refine AllReadyH.cons (o := _) rfl (fun K hK => ?_) ?_
                ·
                  rw [if_pos (by rfl)]
                  refine wp_store_rwc _ _ rfl rb M W c (q r) (cp r) q cp rfl rfl M2.blk HC.out.1 ?_
                  intro w6 B6 k6
                  refine hK.out _ _ (hHeld.trans1 k6) (fun hHeld => ?_)
                  clear hK K
                  try simp only [Act.put, sA1, sA2, sA3]
                  refine tv (v := ?_) 14 (some 41) rfl (by kernel_rfl) (fun _ _ _ h => h) rfl rfl (fun w hSw => ?_) hHeld ?_; rotate_left; (· (go_simp; try with_reducible rfl)); try simp only [Act.put, sA1, sA2, sA3]
                  refine wpAnyH_ready (rs := [15]) (by kernel_rfl) (by simp) ?_
                  refine AllReadyH.cons (o := _) rfl (fun K hK => ?_) ?_
                  ·
                    rw [if_pos (by rfl)]
                    refine wp_store_rwc _ _ rfl rb M W r (q c) (cp c) _ _ rfl rfl B6 HR.out ?_
                    intro w7 B7 k7
                    refine hK.out _ _ (hHeld.trans1 k7) (fun hHeld => ?_)
                    clear hK K
                    try simp only [Act.put, sA1, sA2, sA3]
                    refine wpAnyH_done (by kernel_rfl) ?_ _
                    have M3 := M2.swap HC.out.1 HR.out (k6.trans1 k7) B7
                    clear M2 B6 B7 k6 k7 hHeld hrg2 h2
                    go_wp2_with fail
                    refine (clearColumn_g rb M W c HC.out.1 HCW.out HB.out.1 HB.out.2 _ _ _ (by show eqn (cn (R1 (Q.swp c r c) c)) 0 = false; rw [swp_c]; exact HNZ.out) w0 _ M3).mono ?_
                    rintro e w8 ⟨rfl, M4⟩
                    have HE2 : Hid (ElQ R (clI (fun i => R1 (Q.swp c r i)) c (iv (R1 (Q.swp c r c) c))) M W (c + 1)) := elq_step HE.out HC.out.1 HC.out.2 HR.out HCW.out (fun i j hi hj => M3.rl i j hi hj) HNZ.out
                    clear M3 HNZ HE
                    go_wp2_with fail
                    go_roundw
                    case rel => exact ⟨c + 1, _, _, _, HCW.out, by go_num, M4, HE2.out⟩
                    case measure => exact HMo.out
                  exact AllReadyH.nil
                exact AllReadyH.nil
              exact AllReadyH.nil
            refine AllReadyH.cons (o := _) rfl (fun K hK => ?_) ?_
            ·
              rw [if_pos (by rfl)]
              refine wp_load_cell _ rfl rb c _ rfl (M2.cell HC.out.1) ?_
              refine hK.out _ _ (hHeld) (fun hHeld => ?_)
              clear hK K
              try simp only [Act.put, sA1, sA2, sA3]
              refine wpAnyH_ready (rs := [7]) (by kernel_rfl) (by simp) ?_
              refine AllReadyH.cons (o := _) rfl (fun K hK => ?_) ?_
              ·
                rw [if_pos (by rfl)]
                refine wp_load_cell _ rfl rb r _ rfl (M2.cell HR.out) ?_
                refine hK.out _ _ (hHeld) (fun hHeld => ?_)
                clear hK K
                try simp only [Act.put, sA1, sA2, sA3]
                refine tv (v := ?_) 12 (some 40) rfl (by kernel_rfl) (fun _ _ _ h => h) rfl rfl (fun w hSw => ?_) hHeld ?_; rotate_left; (· (go_simp; try with_reducible rfl)); try simp only [Act.put, sA1, sA2, sA3]
                refine wpAnyH_ready (rs := [13]) (by kernel_rfl) (by simp) ?_
                refine AllReadyH.cons (o := _) rfl (fun K hK => ?_) ?_
                ·
                  rw [if_pos (by rfl)]
                  refine wp_store_rwc _ _ rfl rb M W c (q r) (cp r) q cp rfl rfl M2.blk HC.out.1 ?_
                  intro w6 B6 k6
                  refine hK.out _ _ (hHeld.trans1 k6) (fun hHeld => ?_)
                  clear hK K
                  try simp only [Act.put, sA1, sA2, sA3]
                  refine tv (v := ?_) 14 (some 41) rfl (by kernel_rfl) (fun _ _ _ h => h) rfl rfl (fun w hSw => ?_) hHeld ?_; rotate_left; (· (go_simp; try with_reducible rfl)); try simp only [Act.put, sA1, sA2, sA3]
                  refine wpAnyH_ready (rs := [15]) (by kernel_rfl) (by simp) ?_
                  refine AllReadyH.cons (o := _) rfl (fun K hK => ?_) ?_
                  ·
                    rw [if_pos (by rfl)]
                    refine wp_store_rwc _ _ rfl rb M W r (q c) (cp c) _ _ rfl rfl B6 HR.out ?_
                    intro w7 B7 k7
                    refine hK.out _ _ (hHeld.trans1 k7) (fun hHeld => ?_)
                    clear hK K
                    try simp only [Act.put, sA1, sA2, sA3]
                    refine wpAnyH_done (by kernel_rfl) ?_ _
                    have M3 := M2.swap HC.out.1 HR.out (k6.trans1 k7) B7
                    clear M2 B6 B7 k6 k7 hHeld hrg2 h2
                    go_wp2_with fail
                    refine (clearColumn_g rb M W c HC.out.1 HCW.out HB.out.1 HB.out.2 _ _ _ (by show eqn (cn (R1 (Q.swp c r c) c)) 0 = false; rw [swp_c]; exact HNZ.out) w0 _ M3).mono ?_
                    rintro e w8 ⟨rfl, M4⟩
                    have HE2 : Hid (ElQ R (clI (fun i => R1 (Q.swp c r i)) c (iv (R1 (Q.swp c r c) c))) M W (c + 1)) := elq_step HE.out HC.out.1 HC.out.2 HR.out HCW.out (fun i j hi hj => M3.rl i j hi hj) HNZ.out
                    clear M3 HNZ HE
                    go_wp2_with fail
                    go_roundw
                    case rel => exact ⟨c + 1, _, _, _, HCW.out, by go_num, M4, HE2.out⟩
                    case measure => exact HMo.out
                  exact AllReadyH.nil
                exact AllReadyH.nil
              exact AllReadyH.nil
            exact AllReadyH.nil
        · obtain rfl : M = r := by omega
          go_wp2_with fail
          --CUT2
          rw [Exit.noGoto_ret]
          go_ret
          exact ⟨c, q, cp, R1, rfl, Nat.le_of_lt HCW.out, Mr, HE.out, fun _ i a b => Hz i a b⟩
    · obtain rfl : W = c := by omega
      have hci : ¬ (W : Int) < (W : Int) := by omega
      go_wp2_with fail
      --CUT3
      go_ret
      exact ⟨W, q, cp, R1, rfl, Nat.le_refl _, M1, HE.out, fun a => absurd a (Nat.lt_irrefl _)⟩
end Go.Proofs.YtoafcaieifjoiaaGreat
