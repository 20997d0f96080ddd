/- Joined: CoL, CoF, RiM. -/
import Derived.Test.YtoafcaieifjoiaaGreatCoD
import Derived.Test.YtoafcaieifjoiaaGreatCoG
import Derived.Test.YtoafcaieifjoiaaGreatSrtL
/- shamir.locate. -/
set_option linter.unusedVariables false
set_option linter.unusedSimpArgs false
set_option linter.unnecessarySimpa false
namespace Go.Proofs.YtoafcaieifjoiaaGreat
open Go.RowKit N

def rwP (q cp : Nat → Nat) (W i : Nat) : Nat → List Value := fun k => if k < i then [.slice (some ⟨q k, 0, none⟩) W (cp k)] else [.slice none 0 0]
theorem rwP_ok (M : Nat) (q cp : Nat → Nat) (W i : Nat) : Rok 1 M (rwP q cp W i) := fun k _ => by
  unfold rwP
  by_cases h : k < i
  · rw [if_pos h]; exact ⟨rfl, fun v hv => by simp at hv; subst hv; rfl⟩
  · rw [if_neg h]; exact ⟨rfl, fun v hv => by simp at hv; subst hv; rfl⟩
/-- The first i of M rows are laid. -/
structure Mf (w0 w : World) (rb M i W : Nat) (q cp : Nat → Nat) (R : Nat → Nat → Int) : Prop where
  blk : Blk w rb (rL 1 M (rwP q cp W i)).toArray 22
  row : ∀ k, k < i → Sp w (q k) W (R k)
  cap : ∀ k, k < i → W ≤ cp k
  ne : ∀ k, k < i → ¬ q k = rb
  inj : ∀ k j, k < i → j < i → q k = q j → k = j
  base : w0.heap.size ≤ rb
  bases : ∀ k, k < i → w0.heap.size ≤ q k
  chg : Chg w0 w []
theorem Mf.mx {w0 w : World} {rb M W : Nat} {q cp : Nat → Nat} {R : Nat → Nat → Int} (h : Mf w0 w rb M M W q cp R) (hr : ∀ i j, i < M → j < W → RL (R i j)) : Mx w0 w rb M W q cp R :=
  ⟨h.blk.to (congrArg List.toArray (rL_congr fun k hk => by unfold rwP rwF; rw [if_pos hk])), h.row, h.cap, h.ne, h.inj, hr, h.base, h.bases, h.chg⟩
theorem Mf.keep {w0 w w' : World} {rb M i W : Nat} {q cp : Nat → Nat} {R : Nat → Nat → Int} (h : Mf w0 w rb M i W q cp R) (k : Chg w w' []) : Mf w0 w' rb M i W q cp R :=
  ⟨h.blk.chg k (by simp), fun j hj => (h.row j hj).chg k (by simp), h.cap, h.ne, h.inj, h.base, h.bases, h.chg.trans1 k⟩
/-- make of M rows. -/
theorem make_rowsM {w : World} {ops : Array Oper} {rest : List Oper} {op : Oper} {a : Act} {Q : Exit → Act → World → Prop} (hgd : op.guard = none) (x y : Operand) (ho : op.op = .makeSlice 30 x y) (M : Nat) (hM : M ≤ 255) (hx : a.eval x = .int .i64 (M : Int)) (hy : a.eval y = .int .i64 (M : Int))
    (h : ∀ g w', w.heap.size ≤ g → Blk w' g (rL 1 M (fun _ => [.slice none 0 0])).toArray 22 → Chg w w' [] → wpList Tryz.prog ops Q rest (a.put op.dst (.slice (some ⟨g, 0, none⟩) M M)) w') : wpList Tryz.prog ops Q (op :: rest) a w := by
  have hI : (Tryz.prog.info? 22).map (fun i => (i.zero, i.size, i.bytes)) = some (some (.slice none 0 0), 1, 24) := by kernel_rfl
  cases hi : Tryz.prog.info? 22 with
  | none => rw [hi] at hI; simp at hI
  | some i =>
    rw [hi] at hI
    simp at hI
    obtain ⟨hz, h1, h2⟩ := hI
    have hm := run_make (P := Tryz.prog) w 30 22 i (.slice none 0 0) Tryz.underlying30 hi hz .i64 .i64 (M : Int) (M : Int) (by omega) (by omega) (by rw [h2]; omega) (by omega)
    rw [h1, Int.toNat_natCast] at hm
    refine wpList_plain hgd fun K hK => ?_
    unfold Oper.wp execOp
    simp only [ho, hx, hy, Sem.run_bind, hm, Sem.run_pure, Result.andThen_ok]
    refine hK _ _ (h _ _ (Nat.le_refl _) ?_ ((Chg.refl w []).alloc _))
    have e := made_r #[Value.slice none 0 0] 1 M rfl
    exact (Blk.new w _ _).to e
/-- The next row is laid. -/
theorem store_mf {w0 w : World} {ops : Array Oper} {rest : List Oper} {op : Oper} {a : Act} {Q : Exit → Act → World → Prop} (hgd : op.guard = none) (x y : Operand) (ho : op.op = .store 22 x y) {rb M i W : Nat} {q cp : Nat → Nat} {R : Nat → Nat → Int} (g c : Nat) (hx : a.eval x = .pointer (some ⟨rb, i, none⟩)) (hy : a.eval y = .slice (some ⟨g, 0, none⟩) W c) (hb : Mf w0 w rb M i W q cp R) (hi : i < M) (hc : W ≤ c) (hs : Sp w g W (R i)) (hg : w0.heap.size ≤ g) (hrb : ¬ g = rb) (hne : ∀ k, k < i → ¬ q k = g)
    (h : ∀ w', Mf w0 w' rb M (i + 1) W (fun k => if k = i then g else q k) (fun k => if k = i then c else cp k) R → Chg w w' [rb] → wpList Tryz.prog ops Q rest (a.put op.dst undef) w') : wpList Tryz.prog ops Q (op :: rest) a w := by
  have hcl : w.cell? ⟨rb, i, none⟩ = some (.slice none 0 0) := by
    have e := rL_get (rwP_ok M q cp W i) hi (show 0 < 1 by omega)
    rw [Nat.mul_one, Nat.add_zero] at e
    rw [hb.blk.cell, List.getElem?_toArray, e]
    unfold rwP; rw [if_neg (by omega)]; rfl
  have hz : w.frozen? ⟨rb, i, none⟩ = false := hb.blk.frozen i
  have hI : (Tryz.prog.info? 22).map (·.size) = some 1 := by kernel_rfl
  have hr : (Instr.storeAt 22 (.pointer (some ⟨rb, i, none⟩)) (.slice (some ⟨g, 0, none⟩) W c)).run Tryz.prog w = .ok () (w.setCell ⟨rb, i, none⟩ (.slice (some ⟨g, 0, none⟩) W c)) := by
    cases hi : Tryz.prog.info? 22 with
    | none => rw [hi] at hI; cases hI
    | some i =>
      rw [hi] at hI
      have hs : i.size = 1 := by simpa using hI
      simp [go_sem, hcl, hz, hi, hs]
  have k : Chg w (w.setCell ⟨rb, i, none⟩ (.slice (some ⟨g, 0, none⟩) W c)) [rb] := (Chg.refl w [rb]).setIn (by simp) i _
  refine wpList_plain hgd fun K hK => ?_
  unfold Oper.wp execOp
  simp only [ho, hx, hy, Sem.run_bind, hr, Sem.run_pure, Result.andThen_ok]
  refine hK _ _ (h _ ⟨(hb.blk.setCell i _).to ?_, fun j hj => ?_, fun j hj => ?_, fun j hj => ?_, fun j l hj hl e => ?_, hb.base, fun j hj => ?_, hb.chg.new k hb.base⟩ k)
  · apply Array.ext_getElem?
    intro l
    rw [Array.getElem?_setIfInBounds]
    by_cases hl : l < M
    · have e1 := rL_get (rwP_ok M q cp W i) hl (show 0 < 1 by omega)
      have e2 := rL_get (rwP_ok M (fun k => if k = i then g else q k) (fun k => if k = i then c else cp k) W (i + 1)) hl (show 0 < 1 by omega)
      rw [Nat.mul_one, Nat.add_zero] at e1
      rw [Nat.mul_one] at e2
      rw [Nat.add_zero l] at e2
      rw [List.getElem?_toArray, List.getElem?_toArray, e1, e2]
      unfold rwP
      by_cases e : i = l
      · subst e
        rw [if_pos rfl, if_pos (by rw [List.size_toArray, rL_len]; omega), if_pos (by omega)]
        simp
      · rw [if_neg e]
        have e' : ¬ l = i := fun x => e x.symm
        by_cases a : l < i
        · rw [if_pos a, if_pos (by omega)]; simp [e']
        · rw [if_neg a, if_neg (by omega)]
    · rw [if_neg (by omega), List.getElem?_toArray, List.getElem?_toArray, List.getElem?_eq_none (by rw [rL_len]; omega), List.getElem?_eq_none (by rw [rL_len]; omega)]
  · show Sp _ (if j = i then g else q j) W (R j)
    by_cases e : j = i
    · subst e; rw [if_pos rfl]; exact hs.chg k (by simp; exact hrb)
    · rw [if_neg e]; exact (hb.row j (by omega)).chg k (by simp; exact hb.ne j (by omega))
  · show W ≤ if j = i then c else cp j
    by_cases e : j = i
    · rw [if_pos e]; exact hc
    · rw [if_neg e]; exact hb.cap j (by omega)
  · show ¬ (if j = i then g else q j) = rb
    by_cases e : j = i
    · rw [if_pos e]; exact hrb
    · rw [if_neg e]; exact hb.ne j (by omega)
  · have e' : (if j = i then g else q j) = (if l = i then g else q l) := e
    by_cases a : j = i
    · by_cases b : l = i
      · omega
      · rw [if_pos a, if_neg b] at e'; exact absurd e'.symm (hne l (by omega))
    · by_cases b : l = i
      · rw [if_neg a, if_pos b] at e'; exact absurd e' (hne j (by omega))
      · rw [if_neg a, if_neg b] at e'; exact hb.inj j l (by omega) (by omega) e'
  · show w0.heap.size ≤ if j = i then g else q j
    by_cases e : j = i
    · rw [if_pos e]; exact hg
    · rw [if_neg e]; exact hb.bases j (by omega)
/-- Another block of the call's own was written. -/
theorem Mx.off {w0 w w' : World} {rb M W : Nat} {q cp : Nat → Nat} {R : Nat → Nat → Int} {b : Nat} (h : Mx w0 w rb M W q cp R) (k : Chg w w' [b]) (hb : w0.heap.size ≤ b) (h1 : ¬ rb = b) (h2 : ∀ i, i < M → ¬ q i = b) : Mx w0 w' rb M W q cp R :=
  ⟨h.blk.chg k (by simp; exact h1), fun i hi => (h.row i hi).chg k (by simp; exact h2 i hi), h.cap, h.ne, h.inj, h.rl, h.base, h.bases, h.chg.new k hb⟩
/-- A part of a block of scalars, as a list. -/
theorem Sb.part {w : World} {o N : Nat} {g : Nat → Int} (h : Sb w o N g) (hN : N ≤ 9223372036854775807) (hg : ∀ j, j < N → R256 (g j)) {i n : Nat} (hn : i + n ≤ N) : Ls w (.slice (some ⟨o, i * 32, none⟩) n (N - i)) n (fun j => nT g (i + j)) := by
  refine ⟨fun j hj => by have := hg (i + j) (by omega); unfold R256 at this; show (g (i + j)).toNat < _; omega, Or.inr ⟨o, i * 32, N - i, rfl, by omega, by omega, h.lt, fun j hj => ?_⟩⟩
  rw [nT_c g (i + j) (hg (i + j) (by omega)).1]
  have r := h.range (show i + j < N by omega)
  rw [Nat.add_mul] at r
  exact fc_of r h.lt
/-- What locate answers. -/
def LoP (d y : Nat → Int) (N K e base : Nat) (w' : World) (r : Value) : Prop := haveI := LN_nz;
  (r = .tuple #[.slice none 0 0, .bool false] ∧ ∀ v : Nat → Fin LN, Q.Ker (zR (fun i j => mo d y N (i + j))) K (e + 1) v → ∀ k, k < e + 1 → v k = 0) ∨
  ∃ (g fr : Nat) (lf : Nat → Int), r = .tuple #[.slice (some ⟨g, 0, none⟩) (fr + 1) (fr + 1), .bool true] ∧ base ≤ g ∧ fr ≤ e ∧ Sb w' g (fr + 1) lf ∧ (∀ j, j ≤ fr → RL (lf j)) ∧ lf fr = 1 ∧ Q.Ker (zR (fun i j => mo d y N (i + j))) K (e + 1) (fun j => if j ≤ fr then zq LN (lf j) else 0)
/-- The locator out of the rows. -/
def lcF (R : Nat → Nat → Int) (c i : Nat) : Nat → Int := fun j => if j < i then ng (R j c) else 0
theorem lo_ker {R0 R : Nat → Nat → Int} {M W c : Nat} (h : ElQ R0 R M W c) (hc : c < W) (h0 : ∀ i, c ≤ i → i < M → R i c = 0) : haveI := LN_nz; Q.Ker (zR R0) M W (fun j => if j ≤ c then zq LN (upS (lcF R c c) c 1 j) else 0) := by
  haveI := LN_nz
  refine (h.2 _).1 ?_
  have q := Q.el_loc h.1 hc (fun i a b => by show zq LN (R i c) = 0; rw [h0 i a b]; exact zq_0)
  have e : (fun j => if j ≤ c then zq LN (upS (lcF R c c) c 1 j) else 0) = (fun j => if j < c then 0 - zR R j c else if j = c then 1 else 0) := by
    funext j
    unfold upS lcF
    by_cases a : j < c
    · rw [if_pos (by omega), if_neg (by omega), if_pos a, if_pos a, zq_ng L_LN]
      show - zq LN (R j c) = 0 - zq LN (R j c)
      grind
    · by_cases b : j = c
      · subst b; rw [if_pos (Nat.le_refl _), if_pos rfl, if_neg a, if_pos rfl]; exact zq_1
      · rw [if_neg (by omega), if_neg a, if_neg b]
  rw [e]
  exact q
set_option maxHeartbeats 16000000 in
set_option maxRecDepth 100000 in
theorem locate_g (v : Value) (N T e K : Nat) (d y : Nat → Int) (hT : 0 < T) (hN : T + e + K = N) (hK : K ≤ e + 1) (h255 : N ≤ 255) (hd : ∀ i, i < N → 1 ≤ d i ∧ d i ≤ 255) (hz : ∀ i, i < N → ¬ LN ∣ (gpv d N i).toNat) (w : World) (hL : Hl w v N d y) :
    Calls Tryz.prog 87 #[v, .int .i64 (T : Int), .int .i64 (e : Int)] w fun ex w' => ∃ r, ex = .returned r ∧ LoP d y N K e w.heap.size w' r ∧ Chg w w' [] := by
  obtain ⟨cn', hcn⟩ : ∃ c, e + K = c := ⟨_, rfl⟩
  have hKm := momentsOf_s v N d y (by omega) h255 hd hz cn' (by omega) w hL
  obtain ⟨p, cp, rfl, _⟩ := hL.1.form
  have e0 : IntKind.i64.wrap ((N : Int) - (T : Int)) = (cn' : Int) := by rw [IntKind.wrap_i64]; omega
  have e0b : IntKind.i64.wrap ((cn' : Int) - (e : Int)) = (K : Int) := by rw [IntKind.wrap_i64]; omega
  have HN : Hid (0 < T ∧ T + e + K = N ∧ K ≤ e + 1 ∧ N ≤ 255 ∧ e + K = cn') := ⟨hT, hN, hK, h255, hcn⟩
  obtain ⟨W, hW⟩ : ∃ W, e + 1 = W := ⟨_, rfl⟩
  have HW : Hid (e + 1 = W) := hW
  have eW : IntKind.i64.wrap ((e : Int) + 1) = (W : Int) := by rw [IntKind.wrap_i64]; omega
  clear hL hd hz hT hN hK h255 hcn hW
  have HB1 := built_1
  go_enter Tryz.func87, Tryz.ntmps87
  go_wp2_with fail
  refine hKm.mono ?_
  rintro ex w1 ⟨mb, hmb, rfl, Sm, C⟩
  clear hKm
  have HMB : Hid (w.heap.size ≤ mb) := hmb
  clear hmb
  go_wp2_with (refine make_rowsM rfl _ _ rfl K (by have := HN.out; omega) rfl rfl ?_; intro rb w2 hrb Br k2)
  --CUT0
  have M0 : Mf w w2 rb K 0 W (fun _ => 0) (fun _ => 0) (fun i j => mo d y N (i + j)) := ⟨Br.to (congrArg List.toArray (rL_congr fun k _ => by unfold rwP; rw [if_neg (by omega)])), fun k hk => absurd hk (Nat.not_lt_zero _), fun k hk => absurd hk (Nat.not_lt_zero _), fun k hk => absurd hk (Nat.not_lt_zero _), fun k _ hk => absurd hk (Nat.not_lt_zero _), by have := C.size; omega, fun k hk => absurd hk (Nat.not_lt_zero _), C.trans1 k2⟩
  have HRM : Hid (¬ mb = rb) := by have := Sm.lt; show ¬ mb = rb; omega
  replace Sm := Sm.chg k2 (by simp)
  clear k2 hrb Br C
  go_loopw [26] (fun t wr => ∃ (i : Nat) (q cp : Nat → Nat), i ≤ K ∧ t = .int .i64 (i : Int) ∧ Mf w wr rb K i W q cp (fun i j => mo d y N (i + j)) ∧ Sb wr mb cn' (mo d y N)) (fun t _ => (K - intOf t).toNat)
  case atStart => exact ⟨0, _, _, Nat.zero_le _, rfl, M0, Sm⟩
  case round =>
    clear M0 Sm
    obtain ⟨i, q, cq, hi, rfl, Mi, Sm⟩ := hrel
    by_cases h : i < K
    · have hI : (i : Int) < (K : Int) := by omega
      have hI0 : (0 : Int) ≤ (i : Int) := by omega
      have e1 : IntKind.i64.wrap ((i : Int) + 1) = (i : Int) + 1 := by have := HN.out; rw [IntKind.wrap_i64]; omega
      obtain ⟨z, hz⟩ : ∃ z, i + W = z := ⟨_, rfl⟩
      obtain ⟨m, hm⟩ : ∃ m, cn' - i = m := ⟨_, rfl⟩
      obtain ⟨ie, hie⟩ : ∃ z, i + e = z := ⟨_, rfl⟩
      have e2 : IntKind.i64.wrap ((i : Int) + (e : Int)) = (ie : Int) := by have := HN.out; have := HW.out; rw [IntKind.wrap_i64]; omega
      have e3 : IntKind.i64.wrap ((ie : Int) + 1) = (z : Int) := by have := HN.out; have := HW.out; rw [IntKind.wrap_i64]; omega
      clear hie
      have e4 : z - i = W := by omega
      have hs1 : (i : Int) ≤ (z : Int) := by omega
      have hs2 : (z : Int) ≤ (cn' : Int) := by have := HN.out; have := HW.out; omega
      have hs3 : (0 : Int) ≤ (z : Int) := by omega
      have hm0 : ¬ m = 0 := by have := HN.out; omega
      have HM : Hid (cn' - i = m) := hm
      clear hz
      have HMs : Hid _ := mN K i h
      have HI : Hid (i < K) := h
      have LS := Sm.part (by have := HN.out; omega) (fun j _ => r256_rl (rl_mod _)) (i := i) (n := W) (by have := HN.out; have := HW.out; omega)
      clear h hi
      rw [hm] at LS
      go_wp2_with fail
      --CUT1
      refine (CloneSc_s mb (i * 32) W m _ wr (by have := HW.out; omega) (by have := HN.out; have := HW.out; omega) LS).mono ?_
      rintro ex w3 ⟨a, cap, rfl, hcap, ha, Sa, k⟩
      have HAR : Hid (¬ a = rb) := by have := Mi.blk.lt; show ¬ a = rb; omega
      have HA : Hid (w.heap.size ≤ a) := by have := Mi.chg.size; show w.heap.size ≤ a; omega
      have HAQ : Hid (∀ k, k < i → ¬ q k = a) := fun k hk => by have := (Mi.row k hk).lt; show ¬ q k = a; omega
      have HCA : Hid (W ≤ cap) := hcap
      replace Mi := Mi.keep k
      replace Sm := Sm.chg k (by simp)
      have Sa2 : Sp w3 a W (fun j => mo d y N (i + j)) := Sa.congr (fun j _ => nT_c _ _ (rl_mod _).1)
      clear k LS Sa ha hcap
      go_wp2_with (refine store_mf rfl (.tmp 39) (.tmp 38) rfl a cap rfl rfl Mi HI.out HCA.out Sa2 HA.out HAR.out HAQ.out ?_; intro w4 M4 k4)
      replace Sm := Sm.chg k4 (by have := HRM.out; simp; omega)
      clear k4 Mi Sa2
      go_roundw
      case rel => exact ⟨i + 1, _, _, HI.out, by go_num, M4, Sm⟩
      case measure => exact HMs.out
    · obtain rfl : K = i := by omega
      have hI : ¬ (K : Int) < (K : Int) := by omega
      have Mx0 := Mi.mx (fun i j _ _ => rl_mod _)
      clear Mi Sm h hi
      go_wp2_with fail
      --CUT2
      refine (eliminate_g rb K W (by have := HW.out; omega) (by have := HN.out; have := HW.out; omega) (by have := HN.out; omega) q cq _ w wr Mx0).mono ?_
      rintro ex w3 ⟨c, q', cp', R', rfl, hcW, M3, HE', hz0⟩
      have HE : Hid (ElQ (fun i j => mo d y N (i + j)) R' K W c) := HE'
      have HZ0 : Hid (c < W → ∀ i, c ≤ i → i < K → R' i c = 0) := hz0
      clear Mx0 HE' hz0
      by_cases hce : c ≤ e
      · have hce1 : ¬ (c : Int) > (e : Int) := by omega
        have hce2 : ¬ (e : Int) < (c : Int) := by omega
        have HCE : Hid (c ≤ e ∧ c ≤ K) := ⟨hce, HE.out.le⟩
        have eC : IntKind.i64.wrap ((c : Int) + 1) = ((c + 1 : Nat) : Int) := by have := HN.out; rw [IntKind.wrap_i64]; omega
        have hc0 : (0 : Int) ≤ (c : Int) := by omega
        have hcWi : (c : Int) < (W : Int) := by have := HW.out; omega
        have hcc1 : (c : Int) < ((c + 1 : Nat) : Int) := by omega
        clear hce hcW
        go_wp2_with (refine make_w rfl _ _ rfl (c + 1) (by have := HN.out; have := HCE.out; omega) rfl rfl ?_; intro lb w4 hlb Sl k4)
        --CUT3
        have HLB : Hid (w.heap.size ≤ lb) := by have := M3.chg.size; show w.heap.size ≤ lb; omega
        have HLR : Hid (¬ rb = lb) := by have := M3.blk.lt; show ¬ rb = lb; omega
        have HLQ : Hid (∀ i, i < K → ¬ q' i = lb) := fun i hi => by have := M3.qlt hi; show ¬ q' i = lb; omega
        replace M3 := M3.keep k4
        have S0 : Sb w4 lb (c + 1) (lcF R' c 0) := Sl.congr (fun j _ => (if_neg (by omega)).symm)
        clear k4 hlb Sl
        go_loopw [52] (fun t wr => ∃ i : Nat, i ≤ c ∧ t = .int .i64 (i : Int) ∧ Sb wr lb (c + 1) (lcF R' c i) ∧ Mx w wr rb K W q' cp' R') (fun t _ => (c - intOf t).toNat)
        case atStart => exact ⟨0, Nat.zero_le _, rfl, S0, M3⟩
        case round =>
          clear S0 M3
          obtain ⟨i, hi, rfl, Sl, M3⟩ := hrel
          by_cases h : i < c
          · have hJ : (i : Int) < (c : Int) := by omega
            have hJ0 : (0 : Int) ≤ (i : Int) := by omega
            have hJK : (i : Int) < (K : Int) := by have := HCE.out; omega
            have hJc : (i : Int) < ((c + 1 : Nat) : Int) := by omega
            have e1 : IntKind.i64.wrap ((i : Int) + 1) = (i : Int) + 1 := by have := HN.out; have := HCE.out; rw [IntKind.wrap_i64]; omega
            have HMs : Hid _ := mN c i h
            have HI : Hid (i < c) := h
            have HIK : Hid (i < K) := by have := HCE.out; show i < K; omega
            have HCW : Hid (c < W) := by have := HCE.out; have := HW.out; show c < W; omega
            have h2 : wr.cell? ⟨rb, i, none⟩ = some (.slice (some ⟨q' i, 0, none⟩) W (cp' i)) := M3.cell HIK.out
            have hrg : wr.rangeAt (q' i) (c * 32) (feL (R' i c)) := M3.range HIK.out HCW.out
            have HRR : Hid (R256 (R' i c)) := r256_rl (M3.rl i c HIK.out HCW.out)
            clear h hi
            go_wp2_with (refine load_sc rfl _ rfl (q' i) (c * 32) (R' i c) rfl hrg ?_)
            --CUT4
            refine (Neg_o (R' i c) HRR.out wr).mono ?_
            rintro ex w5 ⟨rfl, k⟩
            replace M3 := M3.keep k
            replace Sl := Sl.chg k (by simp)
            clear k h2 hrg
            go_wp2_with (refine store_sb rfl (.tmp 65) (.tmp 64) rfl lb (c + 1) i _ (ng (R' i c)) rfl rfl Sl (by have := HI.out; omega) ?_; intro w6 S6 k6)
            replace M3 := M3.off k6 HLB.out HLR.out HLQ.out
            have S7 : Sb w6 lb (c + 1) (lcF R' c (i + 1)) := S6.congr (fun j _ => by
              unfold upS lcF
              by_cases a : j = i
              · subst a; rw [if_pos rfl, if_pos (by omega)]
              · rw [if_neg a]
                by_cases b : j < i
                · rw [if_pos b, if_pos (by omega)]
                · rw [if_neg b, if_neg (by omega)])
            clear k6 Sl S6
            go_roundw
            case rel => exact ⟨i + 1, HI.out, by go_num, S7, M3⟩
            case measure => exact HMs.out
          · obtain rfl : i = c := by omega
            have hJ : ¬ (i : Int) < (i : Int) := by omega
            go_wp2_with (first
              | (with_reducible refine build_1 ?_ 24 0 (.const (.int .u8 1)) ?_ (.int .u8 1) ?_ (feC 1) HB1 ?_
                 · rfl
                 · rfl
                 · rfl)
              | (refine store_sb rfl (.tmp 70) (.tmp 69) rfl lb (i + 1) i _ 1 rfl rfl Sl (by omega) ?_; intro w6 S6 k6))
            have C6 := M3.chg.new k6 HLB.out
            go_ret2
            refine ⟨_, rfl, Or.inr ⟨lb, i, _, rfl, HLB.out, HCE.out.1, S6, fun j _ => ?_, if_pos rfl, ?_⟩, C6⟩
            · unfold upS lcF
              by_cases a : j = i
              · rw [if_pos a]; exact ⟨by decide, by decide⟩
              · rw [if_neg a]
                by_cases b : j < i
                · rw [if_pos b]; exact rl_mod _
                · rw [if_neg b]; exact rl_z
            · have q := lo_ker HE.out (by have := HCE.out; have := HW.out; omega) (HZ0.out (by have := HCE.out; have := HW.out; omega))
              rw [← HW.out] at q
              exact q
      · have hce1 : (e : Int) < (c : Int) := by omega
        have hcw : c = W := by have := HW.out; omega
        go_wp2_with fail
        go_ret2
        refine ⟨_, rfl, Or.inl ⟨rfl, fun v hv k hk => ?_⟩, M3.chg⟩
        haveI := LN_nz
        have q1 := HE.out
        rw [hcw] at q1
        rw [HW.out] at hv hk
        exact Q.el_full q1.1 ((q1.2 v).2 hv) k hk
end Go.Proofs.YtoafcaieifjoiaaGreat

/- shamir.Correct. -/
namespace Go.Proofs.YtoafcaieifjoiaaGreat
open Go.RowKit N

/-- What Correct answers. -/
def CrP (d y : Nat → Int) (N : Nat) (t : Int) (base : Nat) (w' : World) (r : Value) : Prop :=
  (∃ c, r = .tuple #[.slice none 0 0, .slice none 0 0, .int .i64 c] ∧ ((¬ enR d N t = 0 ∧ c = enR d N t) ∨ (enR d N t = 0 ∧ c = 72 ∧ ∀ f, ¬ (stL f t.toNat d y N).length ≤ (N - t.toNat) / 2))) ∨
  (enR d N t = 0 ∧ ∃ (g : Nat) (s : Value) (c : Nat → Int), r = .tuple #[.slice (some ⟨g, 0, none⟩) t.toNat t.toNat, s, .int .i64 0] ∧ base ≤ g ∧ ¬ g ∈ ob s ∧ Sb w' g t.toNat c ∧ (∀ j, RL (c j)) ∧ (stL (nT c) t.toNat d y N).length ≤ (N - t.toNat) / 2 ∧ Oi w' base s (srt (stL (nT c) t.toNat d y N)))
set_option maxHeartbeats 16000000 in
set_option maxRecDepth 100000 in
theorem Correct_g (v : Value) (N : Nat) (d y : Nat → Int) (hN : N ≤ 4611686018427387904) (t : Int) (w : World) (hL : Hl w v N d y) :
    Calls Tryz.prog 34 #[v, .int .i64 t] w fun e w' => ∃ r, e = .returned r ∧ CrP d y N t w.heap.size w' r ∧ Chg w w' [] := by
  have hK := checkEnough_s v N d y hN t w hL
  have HL : Hid (Hl w v N d y) := hL
  have HY : Hid (∀ j, j < N → R256 (y j)) := hL.2
  obtain ⟨p, cp, rfl, _⟩ := hL.1.form
  clear hL
  by_cases hE : enR d N t = 0
  · obtain ⟨ht1, ht2, ht3, hid⟩ := enR_zero hE
    have hI := (idR_zero hid).1
    have HI : Hid (idE d N = 0) := hI
    have h255 := idE_len hI
    have HE : Hid (enR d N t = 0) := hE
    rw [hE] at hK
    obtain ⟨T, rfl⟩ : ∃ T : Nat, t = (T : Int) := ⟨t.toNat, by omega⟩
    obtain ⟨e, he⟩ : ∃ e, (N - T) / 2 = e := ⟨_, rfl⟩
    obtain ⟨K, hKe⟩ : ∃ K, T + e + K = N := ⟨N - T - e, by omega⟩
    have HN : Hid (0 < T ∧ T ≤ N ∧ N ≤ 255 ∧ (N - T) / 2 = e ∧ T + e + K = N ∧ e ≤ K ∧ K ≤ e + 1) := ⟨by omega, by omega, h255, he, hKe, by omega, by omega⟩
    have HD : Hid (∀ i, i < N → 1 ≤ d i ∧ d i ≤ 255) := (idE_zero hI).1
    obtain ⟨df, hdf⟩ : ∃ m : Nat, m = N - T := ⟨_, rfl⟩
    have e0 : IntKind.i64.wrap ((N : Int) - (T : Int)) = (df : Int) := by rw [IntKind.wrap_i64]; omega
    have e1 : Int.tdiv (df : Int) 2 = (e : Int) := by rw [Int.tdiv_eq_ediv_of_nonneg (by omega)]; omega
    have e2 : IntKind.i64.wrap (e : Int) = (e : Int) := by rw [IntKind.wrap_i64]; omega
    have HLoc : Hid (∀ w', Chg w w' [] → Calls Tryz.prog 87 #[.slice p N cp, .int .i64 (T : Int), .int .i64 (e : Int)] w' fun ex w'' => ∃ r, ex = .returned r ∧ LoP d y N K e w'.heap.size w'' r ∧ Chg w' w'' []) := fun w' k => locate_g _ N T e K d y HN.out.1 hKe HN.out.2.2.2.2.2.2 h255 HD.out (fun i hi => gpv_ne HI.out hi) w' (HL.out.chg k)
    clear ht1 ht2 ht3 hid hI h255 hE he hKe hN hdf
    go_enter Tryz.func34, Tryz.ntmps34
    go_wp2_with fail
    refine hK.mono ?_
    rintro ex w1 ⟨rfl, C⟩
    clear hK
    go_wp2_with fail
    --CUT0
    refine (HLoc.out w1 C).mono ?_
    rintro ex w2 ⟨r, rfl, hlo, k⟩
    have HCz : Hid (w.heap.size ≤ w1.heap.size) := C.size
    replace C := C.trans1 k
    clear k HLoc
    rcases hlo with ⟨rfl, hnone⟩ | ⟨lb, fr, lf, rfl, hlb, hfr, Sl, hlf, hl1, hker⟩
    · have HNo : Hid (∀ f, ¬ (stL f T d y N).length ≤ e) := fun f => co_none HI.out HN.out.1 HN.out.2.2.2.2.1 HN.out.2.2.2.2.2.1 hnone f
      clear hnone
      go_wp2_with fail
      --CUT1
      go_ret3
      exact ⟨_, rfl, Or.inl ⟨72, rfl, Or.inr ⟨HE.out, rfl, fun f => by rw [Int.toNat_natCast, HN.out.2.2.2.1]; exact HNo.out f⟩⟩, C⟩
    · obtain ⟨l, hl⟩ : ∃ l, clL (nT lf) (fr + 1) d y N = l := ⟨_, rfl⟩
      have HF := co_found HI.out HN.out.1 HN.out.2.2.2.2.1 HN.out.2.2.2.2.2.1 hfr hlf hl1 hker l hl
      have HlT : Hid (0 < T ∧ T ≤ l.length ∧ T ≤ 255) := ⟨HN.out.1, HF.1, by have := HN.out; omega⟩
      have Hlr : Hid (∀ j, j < l.length → R256 (l.getD j (0, 0)).2) := fun j hj => by
        obtain ⟨i, hi, e⟩ := HF.2.1 j hj
        rw [e]; exact HY.out i hi
      have Hld : Hid (∀ j, j < T → 1 ≤ (l.getD j (0, 0)).1 ∧ (l.getD j (0, 0)).1 ≤ 255) := HF.2.2.1
      have Hlz : Hid (∀ j, j < T → ¬ zv (fun j => (l.getD j (0, 0)).1) j = 0) := HF.2.2.2.1
      have Hls : Hid (∀ f, (stL f T d y N).length ≤ e → stL (nT (cc (fun j => (l.getD j (0, 0)).1) (fun j => (l.getD j (0, 0)).2) T)) T d y N = stL f T d y N) := HF.2.2.2.2
      have Hl' : Hid (clL (nT lf) (fr + 1) d y N = l) := hl
      have HFr : Hid (fr ≤ 255) := by have := HN.out; show fr ≤ 255; omega
      have LL := Sl.ls (by have := HFr.out; omega) (fun j hj => r256_rl (hlf j (by omega))) (n := fr + 1) (Nat.le_refl _)
      clear HF hl hlf hl1 hker hlb hfr
      go_wp2_with fail
      --CUT2
      refine (cleared_s _ _ (fr + 1) (nT lf) (by have := HFr.out; omega) N d y (by have := HN.out; omega) HD.out w2 LL (HL.out.chg C)).mono ?_
      rintro ex w3 ⟨r, rfl, O, k⟩
      replace C := C.trans1 k
      rw [Hl'.out] at O
      clear k LL Sl Hl'
      have HO := O.hl Hlr.out
      obtain ⟨pr, cr, rfl, _⟩ := HO.1.form
      have HT2 := HO.take HlT.out.1 HlT.out.2.1
      have hTi : (T : Int) ≤ (l.length : Int) := by have := HlT.out; omega
      have hT0 : (0 : Int) ≤ (T : Int) := by omega
      have hTc : (T : Int) ≤ (cr : Int) := by
        rcases HT2.1.2 with ⟨h1, _⟩ | ⟨g, o, cap, e, h1, _⟩
        · have := HlT.out; omega
        · simp only [Value.slice.injEq] at e
          obtain ⟨_, _, rfl⟩ := e
          omega
      have HH2 : Hid (Hl w3 (.slice pr T cr) T (fun j => (l.getD j (0, 0)).1) (fun j => (l.getD j (0, 0)).2)) := HT2
      clear HO HT2 O
      go_wp2_with fail
      --CUT3
      refine (throughShares_s _ T _ _ HlT.out.1 HlT.out.2.2 Hld.out Hlz.out w3 HH2.out).mono ?_
      rintro ex w4 ⟨g, hg, rfl, S, k⟩
      have HG : Hid (w.heap.size ≤ g) := by have := C.size; show w.heap.size ≤ g; omega
      replace C := C.trans1 k
      obtain ⟨c, hc⟩ : ∃ c, cc (fun j => (l.getD j (0, 0)).1) (fun j => (l.getD j (0, 0)).2) T = c := ⟨_, rfl⟩
      have HCR : Hid (∀ j, RL (c j)) := fun j => by rw [← hc]; exact cc_rl _ _ T j
      rw [hc] at S Hls
      clear k hg HH2 hc Hld Hlz Hlr
      have LC := S.ls (by have := HlT.out; omega) (fun j _ => r256_rl (HCR.out j)) (Nat.le_refl _)
      go_wp2_with fail
      --CUT4
      refine (strays_s _ _ T (nT c) (by have := HlT.out; omega) N d y (by have := HN.out; omega) HD.out w4 LC (HL.out.chg C)).mono ?_
      rintro ex w5 ⟨r, rfl, O, k⟩
      have HB5 : Hid (w.heap.size ≤ w4.heap.size) := C.size
      have HGL : Hid (g < w4.heap.size) := S.lt
      replace C := C.trans1 k
      replace S := S.chg k (by simp)
      have HGO : Hid (¬ g ∈ ob r) := by
        show ¬ g ∈ ob r
        intro hx; have := (ob_own O g hx).1; have := HGL.out; omega
      have O2 : Oi w5 w.heap.size r (stL (nT c) T d y N) := ⟨ownsRow_base O.1 HB5.out, O.2⟩
      have HLn := stL_len (nT c) T d y N
      obtain ⟨ps, cs, rfl⟩ := O.form
      clear k LC O
      by_cases hs : (stL (nT c) T d y N).length ≤ e
      · have hs1 : ¬ ((stL (nT c) T d y N).length : Int) > (e : Int) := by omega
        have hs2 : ¬ (e : Int) < ((stL (nT c) T d y N).length : Int) := by omega
        have HS : Hid ((stL (nT c) T d y N).length ≤ e) := hs
        clear hs
        go_wp2_with fail
        --CUT5
        refine (sort_g _ _ _ w5 O2 (by have := HN.out; omega)).mono ?_
        rintro ex w6 ⟨rfl, O6, k6⟩
        have hob := ob_own O2
        replace C := C.trans k6 (fun i hi => Or.inr (hob i hi).1)
        replace S := S.chg k6 HGO.out
        clear k6 O2 hob
        go_wp2_with fail
        go_ret3
        refine ⟨_, rfl, Or.inr ⟨HE.out, g, _, c, rfl, HG.out, HGO.out, ?_, HCR.out, ?_, ?_⟩, C⟩
        · rw [Int.toNat_natCast]; exact S
        · rw [Int.toNat_natCast, HN.out.2.2.2.1]; exact HS.out
        · rw [Int.toNat_natCast]; exact O6
      · have hs1 : (e : Int) < ((stL (nT c) T d y N).length : Int) := by omega
        have HS : Hid (¬ (stL (nT c) T d y N).length ≤ e) := hs
        clear hs
        go_wp2_with fail
        go_ret3
        exact ⟨_, rfl, Or.inl ⟨72, rfl, Or.inr ⟨HE.out, rfl, fun f => by
          rw [Int.toNat_natCast, HN.out.2.2.2.1]
          exact fun hf => HS.out (by rw [Hls.out f hf]; exact hf)⟩⟩, C⟩
  · have HE : Hid (¬ enR d N t = 0) := hE
    have hE2 : ¬ enR d N t = 0 := hE
    obtain ⟨c, hc⟩ : ∃ c, enR d N t = c := ⟨_, rfl⟩
    have HC : Hid (enR d N t = c) := hc
    rw [hc] at hK hE2
    clear hE hc
    go_enter Tryz.func34, Tryz.ntmps34
    go_wp2_with fail
    refine hK.mono ?_
    rintro ex w1 ⟨rfl, C⟩
    go_wp2_with fail
    --CUT6
    go_ret3
    exact ⟨_, rfl, Or.inl ⟨c, rfl, Or.inl ⟨HE.out, HC.out.symm⟩⟩, C⟩
end Go.Proofs.YtoafcaieifjoiaaGreat

/- ShamirRights: the wrong ones in order. -/
namespace Go.Proofs.YtoafcaieifjoiaaGreat
open Go.RowKit N

/-- The identifiers of the marked places that are id, one behind the other. -/
def wi (d : Nat → Int) (b : Nat → Bool) (id : Int) : Nat → List Int
  | 0 => []
  | k + 1 => if d k = id ∧ b k = true then wi d b id k ++ [id] else wi d b id k
/-- Those of the marked places, from 1 to m. -/
def wnt (d : Nat → Int) (b : Nat → Bool) (N : Nat) : Nat → List Int
  | 0 => []
  | m + 1 => wnt d b N m ++ wi d b ((m + 1 : Nat) : Int) N
/-- How often. -/
def cA (d : Nat → Int) (b : Nat → Bool) (a : Int) : Nat → Nat
  | 0 => 0
  | k + 1 => cA d b a k + if d k = a ∧ b k = true then 1 else 0
theorem wi_len (d : Nat → Int) (b : Nat → Bool) (id : Int) : ∀ k, (wi d b id k).length ≤ k
  | 0 => Nat.le_refl _
  | k + 1 => by
    have := wi_len d b id k
    unfold wi
    by_cases h : d k = id ∧ b k = true
    · rw [if_pos h, List.length_append]; simp; omega
    · rw [if_neg h]; omega
theorem wnt_len (d : Nat → Int) (b : Nat → Bool) (N : Nat) : ∀ m, (wnt d b N m).length ≤ m * N
  | 0 => by simp [wnt]
  | m + 1 => by
    have := wnt_len d b N m
    have := wi_len d b ((m + 1 : Nat) : Int) N
    unfold wnt
    rw [List.length_append, Nat.succ_mul]; omega
theorem wi_all (d : Nat → Int) (b : Nat → Bool) (id : Int) : ∀ k, ∀ x ∈ wi d b id k, x = id
  | 0 => fun x hx => by simp [wi] at hx
  | k + 1 => fun x hx => by
    unfold wi at hx
    by_cases h : d k = id ∧ b k = true
    · rw [if_pos h] at hx
      rcases List.mem_append.1 hx with hx | hx
      · exact wi_all d b id k x hx
      · simpa using hx
    · rw [if_neg h] at hx; exact wi_all d b id k x hx
theorem wi_count (d : Nat → Int) (b : Nat → Bool) (id a : Int) : ∀ k, (wi d b id k).count a = if id = a then cA d b a k else 0
  | 0 => by simp [wi, cA]
  | k + 1 => by
    have ih := wi_count d b id a k
    unfold wi cA
    by_cases h : d k = id ∧ b k = true
    · rw [if_pos h, List.count_append, ih]
      by_cases e : id = a
      · subst e; rw [if_pos rfl, if_pos rfl, if_pos h]; simp
      · rw [if_neg e, if_neg e]; simp [List.count_cons, e]
    · rw [if_neg h, ih]
      by_cases e : id = a
      · subst e; rw [if_pos rfl, if_pos rfl, if_neg h]; rfl
      · rw [if_neg e, if_neg e]
theorem wnt_count (d : Nat → Int) (b : Nat → Bool) (N : Nat) (a : Int) : ∀ m : Nat, (wnt d b N m).count a = if 1 ≤ a ∧ a ≤ (m : Int) then cA d b a N else 0
  | 0 => by rw [if_neg (by omega)]; simp [wnt]
  | m + 1 => by
    unfold wnt
    rw [List.count_append, wnt_count d b N a m, wi_count]
    by_cases h : 1 ≤ a ∧ a ≤ (m : Int)
    · rw [if_pos h, if_neg (by omega), if_pos (by omega)]; rfl
    · rw [if_neg h]
      by_cases e : ((m + 1 : Nat) : Int) = a
      · rw [if_pos e, if_pos (by omega), Nat.zero_add]
      · rw [if_neg e, if_neg (by omega)]
theorem st_count (f : Nat → Nat) (M : Nat) (d y : Nat → Int) (a : Int) : ∀ k, (stL f M d y k).count a = cA d (stB f M d y) a k
  | 0 => by simp [stL, cA]
  | k + 1 => by
    have ih := st_count f M d y a k
    show (if ev f (d k) 0 M = cn (y k) then stL f M d y k else stL f M d y k ++ [d k]).count a = cA d (stB f M d y) a k + if d k = a ∧ stB f M d y k = true then 1 else 0
    by_cases h : ev f (d k) 0 M = cn (y k)
    · have hb : stB f M d y k = false := by unfold stB; simp [h]
      rw [if_pos h, ih, if_neg (by rw [hb]; simp)]; rfl
    · have hb : stB f M d y k = true := by unfold stB; simp [h]
      rw [if_neg h, List.count_append, ih]
      by_cases e : d k = a
      · rw [if_pos ⟨e, hb⟩, e]; simp
      · rw [if_neg (fun x => e x.1)]; simp [List.count_cons, e]
theorem cA_zero {d : Nat → Int} {b : Nat → Bool} {a : Int} : ∀ {N : Nat}, (∀ i, i < N → ¬ d i = a) → cA d b a N = 0
  | 0, _ => rfl
  | N + 1, h => by unfold cA; rw [cA_zero (fun i hi => h i (by omega)), if_neg (fun x => h N (by omega) x.1)]
theorem cA_congr {d : Nat → Int} {b c : Nat → Bool} {a : Int} : ∀ {N : Nat}, (∀ i, i < N → b i = c i) → cA d b a N = cA d c a N
  | 0, _ => rfl
  | N + 1, h => by unfold cA; rw [cA_congr (fun i hi => h i (by omega)), h N (by omega)]
theorem wnt_le (d : Nat → Int) (b : Nat → Bool) (N : Nat) : ∀ m : Nat, ∀ x ∈ wnt d b N m, x ≤ (m : Int)
  | 0 => fun x hx => by simp [wnt] at hx
  | m + 1 => fun x hx => by
    unfold wnt at hx
    rcases List.mem_append.1 hx with hx | hx
    · have := wnt_le d b N m x hx; omega
    · have := wi_all d b _ N x hx; omega
theorem all_pair {l : List Int} {a : Int} (h : ∀ x ∈ l, x = a) : l.Pairwise (fun x y => x ≤ y) := by
  induction l with
  | nil => exact List.Pairwise.nil
  | cons z l ih => exact List.Pairwise.cons (fun y hy => by rw [h z (by simp), h y (by simp [hy])]; exact Int.le_refl _) (ih fun x hx => h x (by simp [hx]))
theorem wnt_pair (d : Nat → Int) (b : Nat → Bool) (N : Nat) : ∀ m : Nat, (wnt d b N m).Pairwise (fun x y => x ≤ y)
  | 0 => List.Pairwise.nil
  | m + 1 => by
    unfold wnt
    rw [List.pairwise_append]
    refine ⟨wnt_pair d b N m, all_pair (wi_all d b _ N), fun x hx y hy => ?_⟩
    have := wnt_le d b N m x hx
    have := wi_all d b _ N y hy
    omega
theorem srt_pair (l : List Int) : (srt l).Pairwise (fun x y => x ≤ y) := by
  have h := List.pairwise_mergeSort (le := fun x y : Int => decide (x ≤ y)) (fun a b c h1 h2 => by simp at *; omega) (fun a b => by simp; omega) l
  exact h.imp (fun h => by simpa using h)
/-- Sorted, the strays are those from 1 to 255. -/
theorem srt_wnt {f : Nat → Nat} {M N : Nat} {d y : Nat → Int} {b : Nat → Bool} (hd : ∀ i, i < N → 1 ≤ d i ∧ d i ≤ 255) (hb : ∀ i, i < N → b i = stB f M d y i) : srt (stL f M d y N) = wnt d b N 255 := by
  have hp : List.Perm (srt (stL f M d y N)) (wnt d b N 255) := by
    refine (List.mergeSort_perm _ _).trans ?_
    rw [List.perm_iff_count]
    intro a
    rw [st_count, wnt_count]
    by_cases h : 1 ≤ a ∧ a ≤ ((255 : Nat) : Int)
    · rw [if_pos h]; exact (cA_congr hb).symm
    · rw [if_neg h]; exact cA_zero fun i hi e => h (by have := hd i hi; omega)
  exact List.Perm.eq_of_pairwise (fun a b _ _ h1 h2 => Int.le_antisymm h1 h2) (srt_pair _) (wnt_pair d b N 255) hp
end Go.Proofs.YtoafcaieifjoiaaGreat
