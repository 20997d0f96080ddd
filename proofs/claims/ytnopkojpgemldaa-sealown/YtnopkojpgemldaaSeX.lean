/- seal: newTagger. -/
import Derived.Test.YtnopkojpgemldaaSeW
import Derived.Laws.Cover3
set_option linter.unusedVariables false
set_option linter.unusedSimpArgs false
set_option linter.unnecessarySimpa false
namespace Go.Proofs.Ytnopkojpgemldaa
open Go.RowKit

/-- The key's first half, with what is cleared cleared. -/
def cl (k : Nat → Nat) : Nat → Nat := fun j => if 16 ≤ j then 0 else if j % 4 = 3 then k j % 16 else if j % 4 = 0 ∧ 0 < j then k j / 4 * 4 else k j
def clI (k : Nat → Nat) (i : Nat) : Nat → Nat := fun j => if 16 ≤ j then 0 else if j % 4 = 3 ∧ j < 4 * i then k j % 16 else if j % 4 = 0 ∧ 0 < j ∧ j ≤ 4 * i then k j / 4 * 4 else k j
def rK (k : Nat → Nat) : Nat := nle (cl k) 17
theorem clI_step (k : Nat → Nat) (i : Nat) (hi : i < 3) : up (up (clI k i) (4 * i + 3) (k (4 * i + 3) % 16)) (4 * i + 4) (k (4 * i + 4) / 4 * 4) = clI k (i + 1) := by
  funext j
  unfold up clI
  by_cases h1 : j = 4 * i + 4
  · subst h1; rw [if_pos rfl, if_neg (by omega), if_neg (by omega), if_pos (by omega)]
  · rw [if_neg h1]
    by_cases h2 : j = 4 * i + 3
    · subst h2; rw [if_pos rfl, if_neg (by omega), if_pos (by omega)]
    · rw [if_neg h2]
      by_cases h3 : 16 ≤ j
      · rw [if_pos h3, if_pos h3]
      · rw [if_neg h3, if_neg h3]
        by_cases h4 : j % 4 = 3 ∧ j < 4 * i
        · rw [if_pos h4, if_pos (by omega)]
        · rw [if_neg h4]
          by_cases h5 : j % 4 = 0 ∧ 0 < j ∧ j ≤ 4 * i
          · rw [if_pos h5, if_neg (by omega), if_pos (by omega)]
          · rw [if_neg h5, if_neg (by omega), if_neg (by omega)]
theorem clI_3 (k : Nat → Nat) (i : Nat) (hi : i < 3) : clI k i (4 * i + 3) = k (4 * i + 3) := by
  unfold clI; rw [if_neg (by omega), if_neg (by omega), if_neg (by omega)]
theorem clI_4 (k : Nat → Nat) (i v : Nat) (hi : i < 3) : up (clI k i) (4 * i + 3) v (4 * i + 4) = k (4 * i + 4) := by
  unfold up clI; rw [if_neg (by omega), if_neg (by omega), if_neg (by omega), if_neg (by omega)]
theorem clI_0 (k : Nat → Nat) : yC 17 (lay (fun _ => 0) 0 16 k) = yC 17 (clI k 0) := yC_eq fun j hj => by
  unfold lay clI
  by_cases h : 16 ≤ j
  · rw [if_neg (by omega), if_pos h]
  · rw [if_pos (by omega), if_neg h, if_neg (by omega), if_neg (by omega), Nat.sub_zero]
theorem clI_15 (k : Nat → Nat) : clI k 3 15 = k 15 := by unfold clI; rw [if_neg (by omega), if_neg (by omega), if_neg (by omega)]
theorem clI_end (k : Nat → Nat) : up (clI k 3) 15 (k 15 % 16) = cl k := by
  funext j
  unfold up clI cl
  by_cases h1 : j = 15
  · subst h1; rw [if_pos rfl, if_neg (by omega), if_pos (by omega)]
  · rw [if_neg h1]
    by_cases h3 : 16 ≤ j
    · rw [if_pos h3, if_pos h3]
    · rw [if_neg h3, if_neg h3]
      by_cases h4 : j % 4 = 3
      · rw [if_pos (by omega), if_pos h4]
      · rw [if_neg (by omega), if_neg h4]
        by_cases h5 : j % 4 = 0 ∧ 0 < j
        · rw [if_pos (by omega), if_pos h5]
        · rw [if_neg (by omega), if_neg h5]
theorem cl_lt {k : Nat → Nat} (hk : ∀ i, i < 16 → k i < 256) (i : Nat) : cl k i < 256 := by
  unfold cl
  split
  · omega
  · have := hk i (by omega)
    split
    · omega
    · split
      · omega
      · exact this
theorem cl_16 (k : Nat → Nat) : cl k 16 = 0 := by unfold cl; rw [if_pos (by omega)]
theorem rK_lt {k : Nat → Nat} (hk : ∀ i, i < 16 → k i < 256) : rK k < 1361129467683753853853498429727072845824 := by
  unfold rK
  rw [nle, cl_16]
  have := nle_lt (b := cl k) 16 (fun i _ => cl_lt hk i)
  simp only [Nat.reducePow] at this ⊢
  omega
theorem and15 (x : Nat) (h : x < 256) : bits .and .u8 (x : Int) 15 = ((x % 16 : Nat) : Int) := by
  have e := u8_and_nat x 15 h (by omega)
  rw [show x &&& 15 = x % 16 from Nat.and_two_pow_sub_one_eq_mod x 4] at e
  exact e
theorem and252n : ∀ x, x < 256 → x &&& 252 = x / 4 * 4 := by decide +kernel
theorem and252 (x : Nat) (h : x < 256) : bits .and .u8 (x : Int) 252 = ((x / 4 * 4 : Nat) : Int) := by
  have e := u8_and_nat x 252 h (by omega)
  rw [and252n x h] at e
  exact e
theorem copy_yz {P : Program} {w : World} {o : Oper} {a : Act} {K : Act → World → Prop} {Q : Exit → Act → World → Prop} (d s : Operand) (dT sT : TypeId)
    (ho : o.op = .call { callee := .builtin .copy, args := #[d, s], argTypes := #[dT, sT] }) (elem : TypeId) (hu : P.underlying dT = some (.slice elem)) (hsz : (P.info? elem).map (·.size) = some 1)
    (g at' dLen dCap : Nat) (sp : Option Addr) (sLen sCap : Nat) (hd : a.eval d = .slice (some ⟨g, at', none⟩) dLen dCap) (hs : a.eval s = .slice sp sLen sCap)
    (N : Nat) (t : Nat → Nat) (T : TypeId) (hg : Blk w g (yC N t) T) (n : Nat) (f : Nat → Nat) (hn : n = Nat.min sLen dLen) (h0 : 0 < n)
    (hsrc : ∃ gs os, sp = some ⟨gs, os, none⟩ ∧ ∀ j, j < n → w.cell? ⟨gs, os + j, none⟩ = some (.int .u8 (f j))) (hfit : at' + n ≤ N)
    (h : ∀ w', Blk w' g (yC N (lay t at' n f)) T → Chg w w' [g] → K (a.put o.dst (goInt n)) w') : o.wp P a w K Q := by
  obtain ⟨gs, os, rfl, hc⟩ := hsrc
  replace hg : Blk w g (#[] ++ (yC N t ++ #[])) T := hg.to (by simp)
  have hrun := run_copy_row (P := P) w dT sT o.type elem g at' dLen dCap ⟨gs, os, none⟩ sLen sCap _ T (yL n f) hu hsz hg (by rw [yL_len]; exact hn)
    (fun j v hj => by obtain ⟨h1, rfl⟩ := yL_some n f j v hj; exact add_cell (hc j h1)) (by rw [yL_len, seg_size]; simp; omega) (yL_one n f)
  have e := lay_row #[] N t #[] at' n f hfit
  simp only [Array.size_empty, Nat.zero_add] at e
  rw [yL_len, List.append_assoc, e] at hrun
  unfold Oper.wp
  simp [execOp, ho, resolve, invoke, builtin, hd, hs, hrun, Result.andThen]
  exact h _ ((hg.setRow _).to (by simp)) ⟨rfl, rfl, rfl, by simp, fun k hk hl => setRow_other _ _ _ _ (by simpa using hl)⟩
/-- A new tagger. -/
def NT (w : World) (k : Nat → Nat) (e : Ending) (w' : World) : Prop := ∃ y, e = .returned (.pointer (some ⟨y, 0, none⟩)) ∧ w.heap.size ≤ y ∧ Tg w' y 0 (rK k) (fun i => k (16 + i)) ∧ Chg w w' []
theorem exec_buildz {P : Program} {o : Oper} {a : Act} (w : World) (t : TypeId) (parts : Array (Nat × Operand)) (ho : o.op = .build t parts) (cells : Array Value) (hb : P.built t (parts.map fun (i, x) => (i, a.eval x)).toList = some cells) :
    (execOp a.eval o).run P w = .ok (.value (.agg cells)) w := by
  have hr := run_build (P := P) w t (parts.map fun (i, x) => (i, a.eval x)) cells hb
  unfold execOp
  simp only [ho, Sem.run_bind, hr, Sem.run_pure, Result.andThen_ok]
theorem exec_build2 {P : Program} {o : Oper} {a : Act} (w : World) (t : TypeId) (i1 i2 : Nat) (x1 x2 : Operand) (ho : o.op = .build t #[(i1, x1), (i2, x2)]) (v1 v2 : Value) (h1 : a.eval x1 = v1) (h2 : a.eval x2 = v2) (cells : Array Value) (hb : P.built t [(i1, v1), (i2, v2)] = some cells) :
    (execOp a.eval o).run P w = .ok (.value (.agg cells)) w := by
  subst h1 h2
  exact exec_buildz w t _ ho cells (by simpa using hb)
theorem box_z {P : Program} {w : World} {op : Oper} {a : Act} {K : Act → World → Prop} {Q : Exit → Act → World → Prop} (ty : TypeId) (x : Operand) (ho : op.op = .box ty x) (cs : Array Value) (hx : (a.eval x).cells = cs)
    (h : ∀ g w', w.heap.size ≤ g → Blk w' g cs ty → Chg w w' [] → K (a.put op.dst (.pointer (some ⟨g, 0, none⟩))) w') : op.wp P a w K Q := by
  subst hx
  unfold Oper.wp execOp
  simp only [ho, Sem.run_bind, Instr.box, newVar, newRow, run_newObj_alloc, Sem.run_pure, Result.andThen_ok]
  exact h _ _ (Nat.le_refl _) (Blk.new w _ _) ((Chg.refl w []).alloc _)
theorem b16Info : (Try.prog.info? 42).map (·.size) = some 16 := by kernel_rfl
theorem yC_cut (n m : Nat) (k : Nat → Nat) : yC (n + m) k = yC n k ++ yC m (fun i => k (n + i)) := by
  apply Array.ext_getElem?
  intro i
  rw [Array.getElem?_append, yC_size]
  by_cases h : i < n
  · rw [if_pos h, yC_get _ _ _ h, yC_get _ _ _ (by omega)]
  · rw [if_neg h]
    by_cases h2 : i < n + m
    · rw [yC_get _ _ _ h2, yC_get _ _ _ (by omega), show n + (i - n) = i by omega]
    · rw [Array.getElem?_eq_none (by rw [yC_size]; omega), Array.getElem?_eq_none (by rw [yC_size]; omega)]
theorem yL_arr (n : Nat) (f : Nat → Nat) : (yL n f).toArray = yC n f := rfl
theorem builtT (R : Nat → Nat) (s : Nat → Nat) : Try.prog.built 114 [(1, .agg (vC 5 R)), (2, .agg (yC 16 s))] = some (vC 5 (fun _ => 0) ++ (vC 5 R ++ yC 16 s)) := by kernel_rfl
theorem Hm0 : Hm (fun _ => 0) := ⟨by decide, by decide, by decide, by decide, by decide⟩
set_option maxHeartbeats 8000000 in
set_option maxRecDepth 100000 in
theorem newTagger_s (k : Nat → Nat) (hk : ∀ i, i < 32 → k i < 256) (w : World) :
    Calls Try.prog 33 #[.agg (yC 32 k)] w fun e w' => NT w k e w' := by
  have HK : Hid (∀ i, i < 32 → k i < 256) := hk
  obtain ⟨R, hR⟩ : ∃ R, rK k = R := ⟨_, rfl⟩
  have HRS : Hid (∀ w', ∀ hb, Blk w' hb (yC 17 (cl k)) 108 → Calls Try.prog 67 #[.pointer (some ⟨hb, 0, none⟩)] w' fun e v => e = .returned (.agg (vC 5 (lb R))) ∧ Chg w' v []) := fun w' hb b2 => by
    have q := residueOf_s hb (cl k) 108 w' (fun i _ => cl_lt (fun j hj => hk j (by omega)) i) (by rw [cl_16]; omega) b2
    rw [show nle (cl k) 17 = R from hR] at q
    exact q
  have HNT : Hid (∀ e w', (∃ y, e = .returned (.pointer (some ⟨y, 0, none⟩)) ∧ w.heap.size ≤ y ∧ Blk w' y (vC 5 (fun _ => 0) ++ (vC 5 (lb R) ++ yC 16 (fun i => k (16 + i)))) 114 ∧ Chg w w' []) → NT w k e w') := fun e w' ⟨y, q1, q2, q3, q4⟩ => by
    unfold NT
    rw [hR]
    exact ⟨y, q1, q2, ⟨_, q3, Hm0, by decide⟩, q4⟩
  obtain ⟨ks, hks⟩ : ∃ s, (fun i => k (16 + i)) = s := ⟨_, rfl⟩
  rw [hks] at HNT
  have HKS : Hid (∀ j, j < 16 → k (16 + j) = ks j) := fun j _ => by rw [← hks]
  clear hk hR hks
  go_enter Try.func33, Try.ntmps33
  go_wp2_with (first
    | (with_reducible refine alloc_w rfl 108 rfl (.agg (yC 17 (fun _ => 0))) zeroB17 (yC 17 (fun _ => 0)) rfl ?_; intro hb w2 hhb BH k2)
    | (refine box_w rfl 23 _ rfl (yC 32 k) rfl ?_; intro kb w1 hkb BK k1))
  have hkl := BK.lt
  replace BK := BK.chg k2 (by simp)
  have K2 : Chg w w2 [] := k1.trans1 k2
  have HO : Hid (¬ hb = kb ∧ w.heap.size ≤ hb ∧ w.heap.size ≤ kb) := ⟨by omega, by have := k1.size; omega, hkb⟩
  clear k1 k2 hhb hkb hkl
  refine lt_begin (fun _ => True) (fun _ => false) (by kernel_rfl) ?_
  replace BK := BK.drew
  replace BH := BH.drew
  replace K2 := K2.drew
  obtain ⟨z, hz⟩ : ∃ z, z = w2.drew := ⟨_, rfl⟩
  rw [← hz] at BK BH K2 ⊢
  clear hz
  refine lt_val (v := (.slice (some ⟨hb, 0, none⟩) 16 17)) 0 (some 5) rfl (by kernel_rfl) (by kernel_rfl) (by kernel_rfl) (fun _ _ _ h => h) rfl rfl (fun w => ?_) ?_
  · (go_simp; try with_reducible rfl)
  try simp only [Act.put, List.setIfInBounds_toArray, List.set_cons_zero, List.set_cons_succ]
  refine lt_val (v := (.slice (some ⟨kb, 0, none⟩) 32 32)) 1 (some 6) rfl (by kernel_rfl) (by kernel_rfl) (by kernel_rfl) (fun _ _ _ h => h) rfl rfl (fun w => ?_) ?_
  · (go_simp; try with_reducible rfl)
  try simp only [Act.put, List.setIfInBounds_toArray, List.set_cons_zero, List.set_cons_succ]
  refine lt_one 2 rfl (by kernel_rfl) rfl (fun K hK => ?_)
  refine copy_yz (.tmp 5) (.tmp 6) 26 26 rfl 5 Try.underlying26 u8Inf hb 0 16 17 (some ⟨kb, 0, none⟩) 32 32 rfl rfl 17 (fun _ => 0) 108 BH 16 k rfl (by omega) ⟨kb, 0, rfl, fun j hj => by rw [BK.cell, Nat.zero_add, yC_get _ _ _ (by omega)]⟩ (by omega) ?_
  intro w3 B3 k3
  change K (Act.put _ (some 7) _) _
  refine hK.out _ _ (fun _ h => h) ?_
  clear hK K
  try simp only [Act.put, List.setIfInBounds_toArray, List.set_cons_zero, List.set_cons_succ]
  refine lt_done (by kernel_rfl) ?_ _
  rw [clI_0] at B3
  have BK3 := BK.chg k3 (by have := HO.out; simp; omega)
  have K3 : Chg w w3 [] := K2.new k3 HO.out.2.1
  clear BH BK K2 k3
  go_wp2_with fail
  go_loopw [8] (fun t wr => ∃ i : Nat, i ≤ 3 ∧ t = .int .i64 (i : Int) ∧ Blk wr hb (yC 17 (clI k i)) 108 ∧ Chg w3 wr [hb]) (fun t _ => (3 - intOf t).toNat)
  case atStart => exact ⟨0, by omega, rfl, B3, Chg.refl _ _⟩
  case round =>
    clear B3
    obtain ⟨i, hi, rfl, b0, c0⟩ := hrel
    by_cases h8 : i < 3
    · have hI : (i : Int) < 3 := by omega
      have e1 : IntKind.i64.wrap ((i : Int) + 1) = (i : Int) + 1 := by rw [IntKind.wrap_i64]; omega
      have HS := clI_step k i h8
      have h3 := clI_3 k i h8
      have h4 := clI_4 k i (k (4 * i + 3) % 16) h8
      have x3 := HK.out (4 * i + 3) (by omega)
      have x4 := HK.out (4 * i + 4) (by omega)
      obtain ⟨m, hm⟩ : ∃ m, 4 * i + 3 = m := ⟨_, rfl⟩
      obtain ⟨p, hp⟩ : ∃ p, 4 * i + 4 = p := ⟨_, rfl⟩
      obtain ⟨q, hq⟩ : ∃ q, 4 * i = q := ⟨_, rfl⟩
      have e4 : IntKind.i64.wrap (4 * (i : Int)) = (q : Int) := by rw [IntKind.wrap_i64]; omega
      have e5 : IntKind.i64.wrap ((q : Int) + 3) = (m : Int) := by rw [IntKind.wrap_i64]; omega
      have e6 : IntKind.i64.wrap ((q : Int) + 4) = (p : Int) := by rw [IntKind.wrap_i64]; omega
      have hm1 : (m : Int) < 17 := by omega
      have hp1 : (p : Int) < 17 := by omega
      have hm2 : Hid (m < 17 ∧ p < 17) := ⟨by omega, by omega⟩
      rw [hm, hp] at HS h4
      rw [hm] at h3 x3
      rw [hp] at x4
      obtain ⟨A, hA⟩ : ∃ A, k m = A := ⟨_, rfl⟩
      obtain ⟨D, hD⟩ : ∃ D, k p = D := ⟨_, rfl⟩
      rw [hA] at h3 x3 h4 HS
      rw [hD] at h4 x4 HS
      have a1 := and15 A x3
      have a2 := and252 D x4
      obtain ⟨A1, hA1⟩ : ∃ z, A % 16 = z := ⟨_, rfl⟩
      obtain ⟨D1, hD1⟩ : ∃ z, D / 4 * 4 = z := ⟨_, rfl⟩
      rw [hA1] at a1 h4 HS
      rw [hD1] at a2 HS
      have HSS : Hid (up (up (clI k i) m A1) p D1 = clI k (i + 1)) := HS
      have c3 := (b0.cell m).trans (yC_get 17 _ m hm2.out.1)
      rw [h3] at c3
      have f3 := b0.frozen m
      have b2 := (b0.setCell m (.int .u8 (A1 : Nat))).to (yC_set 17 _ m A1)
      have cc2 := c0.setIn (k := hb) (by simp) m (.int .u8 (A1 : Nat))
      have c4 := (b2.cell p).trans (yC_get 17 _ p hm2.out.2)
      rw [h4] at c4
      have f4 := b2.frozen p
      have b3 := (b2.setCell p (.int .u8 (D1 : Nat))).to ((yC_set 17 _ p D1).trans (congrArg (yC 17) HSS.out))
      have cc3 := cc2.setIn (k := hb) (by simp) p (.int .u8 (D1 : Nat))
      clear hm hp hq hA hD hA1 hD1 HS h3 h4 x3 x4
      go_wp2_with fail
      exact ⟨⟨i + 1, by omega, by go_num, b3, cc3⟩, by simp [intOf]; omega⟩
    · obtain rfl : i = 3 := by omega
      have h15 := clI_15 k
      have x15 := HK.out 15 (by omega)
      have hend := clI_end k
      obtain ⟨A, hA⟩ : ∃ A, k 15 = A := ⟨_, rfl⟩
      rw [hA] at h15 x15 hend
      have a1 := and15 A x15
      obtain ⟨A1, hA1⟩ : ∃ z, A % 16 = z := ⟨_, rfl⟩
      rw [hA1] at a1 hend
      have c3 := (b0.cell 15).trans (yC_get 17 _ 15 (by omega))
      rw [h15] at c3
      have f3 := b0.frozen 15
      have b2 := (b0.setCell 15 (.int .u8 (A1 : Nat))).to ((yC_set 17 _ 15 A1).trans (congrArg (yC 17) hend))
      have K4 : Chg w (wr.setCell ⟨hb, 15, none⟩ (.int .u8 (A1 : Nat))) [] := (K3.new c0 HO.out.2.1).setNew HO.out.2.1 15 _
      have BK4 := (BK3.chg c0 (by have := HO.out; simp; omega)).chg ((Chg.refl wr [hb]).setIn (k := hb) (by simp) 15 (.int .u8 (A1 : Nat))) (by have := HO.out; simp; omega)
      clear hA hA1 h15 x15 hend h8 hi c0 K3 BK3
      go_wp2_with fail
      obtain ⟨w4, hw4⟩ : ∃ z, z = wr.setCell ⟨hb, 15, none⟩ (.int .u8 (A1 : Nat)) := ⟨_, rfl⟩
      rw [← hw4] at b2 K4 BK4 ⊢
      clear hw4 c3 f3 a1 b0
      refine lt_begin (fun w' => Blk w' kb (yC 32 k) 23) (fun _ => false) (by kernel_rfl) ?_
      replace b2 := b2.drew
      replace K4 := K4.drew
      have hHeld := BK4.drew
      obtain ⟨z, hz⟩ : ∃ z, z = w4.drew := ⟨_, rfl⟩
      rw [← hz] at b2 K4 hHeld ⊢
      clear hz BK4
      refine lt_val (v := (.slice (some ⟨kb, 16, none⟩) 16 16)) 1 (some 31) rfl (by kernel_rfl) (by kernel_rfl) (by kernel_rfl) (fun _ _ _ h => h) rfl rfl (fun w => ?_) ?_
      · (go_simp; try with_reducible rfl)
      try simp only [Act.put, List.setIfInBounds_toArray, List.set_cons_zero, List.set_cons_succ]
      refine lt_val (v := (.pointer (some ⟨kb, 16, none⟩))) 2 (some 32) rfl (by kernel_rfl) (by kernel_rfl) (by kernel_rfl) (fun _ _ _ h => h) rfl rfl (fun w => ?_) ?_
      · have hat := fun w => run_arrayAt (P := Try.prog) w 42 5 16 (some ⟨kb, 16, none⟩) 16 16 Try.underlying42 (Nat.le_refl _); (go_simp; try with_reducible rfl)
      try simp only [Act.put, List.setIfInBounds_toArray, List.set_cons_zero, List.set_cons_succ]
      refine lt_read (v := (.agg (yC 16 ks))) 3 (some 33) rfl (by kernel_rfl) (by kernel_rfl) (by kernel_rfl) (by kernel_rfl) (fun _ _ _ h => h) rfl rfl (fun w hSw => ?_) hHeld ?_
      · skip; exact (exec_load_m w 42 (.tmp 32) rfl kb 16 rfl (yL 16 ks) _ (fun j x hj => by obtain ⟨h1, rfl⟩ := yL_some _ _ _ _ hj; rw [hSw.cell, yC_get _ _ _ (by omega), HKS.out j h1]) Try.underlying42 rfl (by rw [yL_len]; exact b16Info))
      try simp only [Act.put, List.setIfInBounds_toArray, List.set_cons_zero, List.set_cons_succ]
      refine lt_one 0 rfl (by kernel_rfl) rfl (fun K hK => ?_)
      go_simp
      refine (HRS.out z hb b2).mono ?_
      rintro e w5 ⟨rfl, k5⟩
      go_wp2_with fail
      refine hK.out _ _ (fun _ h => h.chg k5 (by simp)) ?_
      clear hK K
      try simp only [Act.put, List.setIfInBounds_toArray, List.set_cons_zero, List.set_cons_succ]
      refine lt_val (v := (.agg (vC 5 (fun _ => 0) ++ (vC 5 (lb R) ++ yC 16 ks)))) 4 (some 34) rfl (by kernel_rfl) (by kernel_rfl) (by kernel_rfl) (fun _ _ _ h => h) rfl rfl (fun w => ?_) ?_
      · exact exec_build2 w 114 1 2 (.tmp 30) (.tmp 33) rfl (.agg (vC 5 (lb R))) (.agg (yC 16 ks)) rfl rfl _ (builtT (lb R) ks)
      try simp only [Act.put, List.setIfInBounds_toArray, List.set_cons_zero, List.set_cons_succ]
      refine lt_one 5 rfl (by kernel_rfl) rfl (fun K hK => ?_)
      refine box_z 114 _ rfl (vC 5 (fun _ => 0) ++ (vC 5 (lb R) ++ yC 16 ks)) rfl ?_
      intro y w6 hy BY k6
      change K (Act.put _ (some 35) _) _
      refine hK.out _ _ (fun _ h => h.chg k6 (by simp)) ?_
      clear hK K
      try simp only [Act.put, List.setIfInBounds_toArray, List.set_cons_zero, List.set_cons_succ]
      refine lt_val (v := ?_) 6 (some 2) rfl (by kernel_rfl) (by kernel_rfl) (by kernel_rfl) (fun _ _ _ h => h) rfl rfl (fun w => ?_) ?_
      rotate_left
      · (go_simp; try with_reducible rfl)
      try simp only [Act.put, List.setIfInBounds_toArray, List.set_cons_zero, List.set_cons_succ]
      refine lt_done (by kernel_rfl) ?_ _
      have hyw : w.heap.size ≤ y := by have := (K4.trans1 k5).size; omega
      have C : Chg w w6 [] := (K4.trans1 k5).trans1 k6
      go_wp2_with fail
      go_ret
      exact HNT.out _ _ ⟨y, rfl, hyw, BY, C⟩
end Go.Proofs.Ytnopkojpgemldaa
