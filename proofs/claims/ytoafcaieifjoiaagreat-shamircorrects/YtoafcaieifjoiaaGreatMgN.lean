/- Joined: CoX, CoC. -/
import Derived.Test.YtoafcaieifjoiaaGreatMgE
import Derived.WalkMore
/- Rows of scalars in memory: a list of lists. -/
set_option linter.unusedVariables false
set_option linter.unusedSimpArgs false
set_option linter.unnecessarySimpa false
namespace Go.Proofs.YtoafcaieifjoiaaGreat
open Go.RowKit N

def rwF (q cp : Nat → Nat) (W : Nat) : Nat → List Value := fun i => [.slice (some ⟨q i, 0, none⟩) W (cp i)]
theorem rwF_ok (M : Nat) (q cp : Nat → Nat) (W : Nat) : Rok 1 M (rwF q cp W) := fun i _ => ⟨rfl, fun v hv => by unfold rwF at hv; simp at hv; subst hv; rfl⟩
/-- M rows of W scalars each, all of the call's own (behind w0). -/
structure Mx (w0 w : World) (rb M W : Nat) (q cp : Nat → Nat) (R : Nat → Nat → Int) : Prop where
  blk : Blk w rb (rL 1 M (rwF q cp W)).toArray 22
  row : ∀ i, i < M → Sp w (q i) W (R i)
  cap : ∀ i, i < M → W ≤ cp i
  ne : ∀ i, i < M → ¬ q i = rb
  inj : ∀ i j, i < M → j < M → q i = q j → i = j
  rl : ∀ i j, i < M → j < W → RL (R i j)
  base : w0.heap.size ≤ rb
  bases : ∀ i, i < M → w0.heap.size ≤ q i
  chg : Chg w0 w []
theorem Mx.cell {w0 w : World} {rb M W : Nat} {q cp : Nat → Nat} {R : Nat → Nat → Int} (h : Mx w0 w rb M W q cp R) {i : Nat} (hi : i < M) : w.cell? ⟨rb, i, none⟩ = some (.slice (some ⟨q i, 0, none⟩) W (cp i)) := by
  have e := rL_get (rwF_ok M q cp W) hi (show 0 < 1 by omega)
  rw [Nat.mul_one, Nat.add_zero] at e
  rw [h.blk.cell, List.getElem?_toArray, e]; rfl
theorem Mx.range {w0 w : World} {rb M W : Nat} {q cp : Nat → Nat} {R : Nat → Nat → Int} (h : Mx w0 w rb M W q cp R) {i j : Nat} (hi : i < M) (hj : j < W) : w.rangeAt (q i) (j * 32) (feL (R i j)) := (h.row i hi).range hj
theorem Mx.qlt {w0 w : World} {rb M W : Nat} {q cp : Nat → Nat} {R : Nat → Nat → Int} (h : Mx w0 w rb M W q cp R) {i : Nat} (hi : i < M) : q i < w.heap.size := (h.row i hi).lt
theorem Mx.keep {w0 w w' : World} {rb M W : Nat} {q cp : Nat → Nat} {R : Nat → Nat → Int} (h : Mx w0 w rb M W q cp R) (k : Chg w w' []) : Mx w0 w' rb M W q cp R :=
  ⟨h.blk.chg k (by simp), fun i hi => (h.row i hi).chg k (by simp), h.cap, h.ne, h.inj, h.rl, h.base, h.bases, h.chg.trans1 k⟩
/-- A block that came later was written. -/
theorem Mx.fresh {w0 w w1 w' : World} {rb M W : Nat} {q cp : Nat → Nat} {R : Nat → Nat → Int} {b : Nat} (h : Mx w0 w rb M W q cp R) (k1 : Chg w w1 []) (hb : w.heap.size ≤ b) (k : Chg w1 w' [b]) : Mx w0 w' rb M W q cp R := by
  have h1 := h.keep k1
  have hr := h.blk.lt
  refine ⟨h1.blk.chg k (by simp; omega), fun i hi => (h1.row i hi).chg k (by have := h.qlt hi; simp; omega), h.cap, h.ne, h.inj, h.rl, h.base, h.bases, h1.chg.new k (by have := h.chg.size; omega)⟩
def upM (R : Nat → Nat → Int) (i : Nat) (g : Nat → Int) : Nat → Nat → Int := fun k => if k = i then g else R k
/-- A row was written. -/
theorem Mx.put {w0 w w' : World} {rb M W : Nat} {q cp : Nat → Nat} {R : Nat → Nat → Int} (h : Mx w0 w rb M W q cp R) {i : Nat} (hi : i < M) {g : Nat → Int} (hs : Sp w' (q i) W g) (hg : ∀ j, j < W → RL (g j)) (k : Chg w w' [q i]) : Mx w0 w' rb M W q cp (upM R i g) := by
  refine ⟨h.blk.chg k (by have := h.ne i hi; simp; omega), fun j hj => ?_, h.cap, h.ne, h.inj, fun a b ha hb => ?_, h.base, h.bases, h.chg.new k (h.bases i hi)⟩
  · unfold upM
    by_cases e : j = i
    · subst e; rw [if_pos rfl]; exact hs
    · rw [if_neg e]; exact (h.row j hj).chg k (by simp; intro x; exact e (h.inj j i hj hi x))
  · unfold upM
    by_cases e : a = i
    · rw [if_pos e]; exact hg b hb
    · rw [if_neg e]; exact h.rl a b ha hb
theorem Mx.congr {w0 w : World} {rb M W : Nat} {q cp : Nat → Nat} {R R' : Nat → Nat → Int} (h : Mx w0 w rb M W q cp R) (e : ∀ i j, i < M → j < W → R i j = R' i j) : Mx w0 w rb M W q cp R' :=
  ⟨h.blk, fun i hi => (h.row i hi).congr (fun j hj => e i j hi hj), h.cap, h.ne, h.inj, fun i j hi hj => by rw [← e i j hi hj]; exact h.rl i j hi hj, h.base, h.bases, h.chg⟩
theorem Mx.drew {w0 w : World} {rb M W : Nat} {q cp : Nat → Nat} {R : Nat → Nat → Int} (h : Mx w0 w rb M W q cp R) : Mx w0 w.drew rb M W q cp R := ⟨h.blk, h.row, h.cap, h.ne, h.inj, h.rl, h.base, h.bases, h.chg.drew⟩
theorem Mx.rangeO {w0 w : World} {rb M W : Nat} {q cp : Nat → Nat} {R : Nat → Nat → Int} (h : Mx w0 w rb M W q cp R) {i c j : Nat} (hi : i < M) (hj : c + j < W) {X : Int} (hX : R i (c + j) = X) : w.rangeAt (q i) (c * 32 + j * 32) (feL X) := by
  have r := h.range hi hj
  rw [Nat.add_mul, hX] at r
  exact r
theorem exec_mid {P : Program} {op : Oper} {a : Act} (w : World) (ty : TypeId) (x : Operand) (ho : op.op = .load ty x) (b o : Nat) (hx : a.eval x = .pointer (some ⟨b, o, none⟩)) (cs : List Value) (d : TypeDesc) (hc : w.rangeAt b o cs)
    (hu : P.underlying ty = some d) (hd : d.isRow = true) (hi : (P.info? ty).map (·.size) = some cs.length) : (execOp a.eval op).run P w = .ok (.value (.agg cs.toArray)) w := by
  unfold execOp
  simp only [ho, hx, Instr.loadAt, Instr.sureAddr, Sem.run_bind, Sem.run_pure, Result.andThen_ok, run_loadVar_mid w b o ty cs d hc hu hd hi]
/-- A scalar stored within a row. -/
theorem wp_store_mx {w0 w : World} {op : Oper} {a : Act} {K : Act → World → Prop} {Q : Exit → Act → World → Prop} (x y : Operand) (ho : op.op = .store 24 x y) {rb M W : Nat} {q cp : Nat → Nat} {R : Nat → Nat → Int} (h0 : Mx w0 w rb M W q cp R) (k c j : Nat) (X : Int) (hx : a.eval x = .pointer (some ⟨q k, c * 32 + j * 32, none⟩)) (hy : a.eval y = fe X) (hk : k < M) (hj : c + j < W) (rX : RL X)
    (h : ∀ w', Mx w0 w' rb M W q cp (upM R k (upS (R k) (c + j) X)) → Chg w w' [q k] → K (a.put op.dst undef) w') : op.wp Tryz.prog a w K Q :=
  wp_store_sp x y ho (q k) W (c + j) (R k) X (by rw [Nat.add_mul]; exact hx) hy (h0.row k hk) hj fun w' s1 s2 => h w' (h0.put hk s1 (fun j' hj' => by
    unfold upS
    by_cases e : j' = c + j
    · rw [if_pos e]; exact rX
    · rw [if_neg e]; exact h0.rl k j' hk hj') s2) s2
end Go.Proofs.YtoafcaieifjoiaaGreat

/- shamir.clearColumn. -/
namespace Go.Proofs.YtoafcaieifjoiaaGreat
open Go.RowKit N

/-- What clearColumn makes of the rows. -/
def clI (R : Nat → Nat → Int) (c : Nat) (V : Int) : Nat → Nat → Int := fun i j => if j < c then R i j else if i = c then ml (R c j) V else ma (ng (R i c)) (ml (R c j) V) (R i j)
def a1 (R : Nat → Nat → Int) (c : Nat) (V : Int) (i : Nat) : Nat → Nat → Int := fun k j => if k = c ∧ c ≤ j ∧ j < c + i then ml (R c j) V else R k j
def bI (R : Nat → Nat → Int) (c : Nat) (V : Int) : Nat → Nat → Int := fun k j => if k = c ∧ c ≤ j then ml (R c j) V else R k j
def a2 (R : Nat → Nat → Int) (c : Nat) (V : Int) (r : Nat) : Nat → Nat → Int := fun k j => if k < r then clI R c V k j else bI R c V k j
def a3 (R : Nat → Nat → Int) (c : Nat) (V F : Int) (r i : Nat) : Nat → Nat → Int := fun k j => if k = r ∧ c ≤ j ∧ j < c + i then ma F (ml (R c j) V) (R r j) else a2 R c V r k j
theorem a1_0 (R : Nat → Nat → Int) (c : Nat) (V : Int) (k j : Nat) : R k j = a1 R c V 0 k j := (if_neg (by omega)).symm
theorem a1_at (R : Nat → Nat → Int) (c : Nat) (V : Int) (i : Nat) : a1 R c V i c (c + i) = R c (c + i) := if_neg (by omega)
theorem a1_step (R : Nat → Nat → Int) (c : Nat) (V : Int) (i a b : Nat) : upM (a1 R c V i) c (upS (a1 R c V i c) (c + i) (ml (R c (c + i)) V)) a b = a1 R c V (i + 1) a b := by
  unfold upM
  by_cases h : a = c
  · subst h
    rw [if_pos rfl]
    unfold upS
    by_cases h2 : b = a + i
    · subst h2
      rw [if_pos rfl]
      exact (if_pos ⟨rfl, by omega, by omega⟩).symm
    · rw [if_neg h2]
      unfold a1
      by_cases h3 : a ≤ b ∧ b < a + i
      · rw [if_pos ⟨rfl, h3⟩, if_pos ⟨rfl, by omega⟩]
      · rw [if_neg (by omega), if_neg (by omega)]
  · rw [if_neg h]
    unfold a1
    rw [if_neg (by omega), if_neg (by omega)]
theorem a1_end (R : Nat → Nat → Int) (c : Nat) (V : Int) {W n : Nat} (hn : c + n = W) (a b : Nat) (hb : b < W) : a1 R c V n a b = a2 R c V 0 a b := by
  unfold a1 a2 bI
  rw [if_neg (show ¬ a < 0 by omega)]
  by_cases h : a = c ∧ c ≤ b
  · rw [if_pos h, if_pos ⟨h.1, h.2, by omega⟩]
  · rw [if_neg h, if_neg (by omega)]
theorem a2_own (R : Nat → Nat → Int) (c : Nat) (V : Int) (a b : Nat) : a2 R c V c a b = a2 R c V (c + 1) a b := by
  unfold a2
  by_cases h : a < c
  · rw [if_pos h, if_pos (by omega)]
  · by_cases h2 : a = c
    · subst h2
      rw [if_neg h, if_pos (by omega)]
      unfold bI clI
      by_cases h3 : b < a
      · rw [if_neg (by omega), if_pos h3]
      · rw [if_pos ⟨rfl, by omega⟩, if_neg h3, if_pos rfl]
    · rw [if_neg h, if_neg (by omega)]
theorem a2_c (R : Nat → Nat → Int) (c : Nat) (V : Int) (r j : Nat) : a2 R c V r c (c + j) = ml (R c (c + j)) V := by
  unfold a2 clI bI
  by_cases h : c < r
  · rw [if_pos h, if_neg (show ¬ c + j < c by omega), if_pos rfl]
  · rw [if_neg h, if_pos ⟨rfl, by omega⟩]
theorem a2_r (R : Nat → Nat → Int) (c : Nat) (V : Int) {r : Nat} (h : ¬ r = c) (j : Nat) : a2 R c V r r j = R r j := by
  unfold a2 bI
  rw [if_neg (Nat.lt_irrefl _), if_neg (fun x => h x.1)]
theorem a3_0 (R : Nat → Nat → Int) (c : Nat) (V F : Int) (r k j : Nat) : a2 R c V r k j = a3 R c V F r 0 k j := (if_neg (by omega)).symm
theorem a3_c (R : Nat → Nat → Int) (c : Nat) (V F : Int) {r : Nat} (h : ¬ r = c) (i j : Nat) : a3 R c V F r i c (c + j) = ml (R c (c + j)) V := by
  unfold a3
  rw [if_neg (fun x => h x.1.symm)]
  exact a2_c R c V r j
theorem a3_at (R : Nat → Nat → Int) (c : Nat) (V F : Int) (r : Nat) (h : ¬ r = c) (i : Nat) : a3 R c V F r i r (c + i) = R r (c + i) := by
  unfold a3
  rw [if_neg (by omega)]
  exact a2_r R c V h (c + i)
theorem a3_step (R : Nat → Nat → Int) (c : Nat) (V F : Int) (r i a b : Nat) : upM (a3 R c V F r i) r (upS (a3 R c V F r i r) (c + i) (ma F (ml (R c (c + i)) V) (R r (c + i)))) a b = a3 R c V F r (i + 1) a b := by
  unfold upM
  by_cases h : a = r
  · subst h
    rw [if_pos rfl]
    unfold upS
    by_cases h2 : b = c + i
    · subst h2
      rw [if_pos rfl]
      exact (if_pos ⟨rfl, by omega, by omega⟩).symm
    · rw [if_neg h2]
      unfold a3
      by_cases h3 : c ≤ b ∧ b < c + i
      · rw [if_pos ⟨rfl, h3⟩, if_pos ⟨rfl, by omega⟩]
      · rw [if_neg (by omega), if_neg (by omega)]
  · rw [if_neg h]
    unfold a3
    rw [if_neg (by omega), if_neg (by omega)]
theorem a3_end (R : Nat → Nat → Int) (c : Nat) (V : Int) {r W n : Nat} (h : ¬ r = c) (hn : c + n = W) (a b : Nat) (hb : b < W) : a3 R c V (ng (R r c)) r n a b = a2 R c V (r + 1) a b := by
  unfold a3 a2
  by_cases h1 : a = r
  · subst h1
    rw [if_pos (show a < a + 1 by omega), if_neg (Nat.lt_irrefl a)]
    unfold clI bI
    by_cases h2 : b < c
    · rw [if_neg (by omega), if_neg (by omega), if_pos h2]
    · rw [if_pos ⟨rfl, by omega, by omega⟩, if_neg h2, if_neg h]
  · rw [if_neg (fun x => h1 x.1)]
    by_cases h2 : a < r
    · rw [if_pos h2, if_pos (by omega)]
    · rw [if_neg h2, if_neg (by omega)]
theorem a2_end (R : Nat → Nat → Int) (c : Nat) (V : Int) {M a : Nat} (h : a < M) (b : Nat) : a2 R c V M a b = clI R c V a b := if_pos h
set_option maxHeartbeats 16000000 in
set_option maxRecDepth 100000 in
theorem clearColumn_g (rb M W c : Nat) (hc : c < M) (hcW : c < W) (hW : W ≤ 255) (hM : M ≤ 255) (q cp : Nat → Nat) (R : Nat → Nat → Int) (hnz : eqn (cn (R c c)) 0 = false) (w0 w : World) (h0 : Mx w0 w rb M W q cp R) :
    Calls Tryz.prog 141 #[.slice (some ⟨rb, 0, none⟩) M M, .int .i64 (c : Int)] w fun e w' => e = .returned (.tuple #[]) ∧ Mx w0 w' rb M W q cp (clI R c (iv (R c c))) := by
  have HC : Hid (c < M ∧ c < W ∧ W ≤ 255 ∧ M ≤ 255) := ⟨hc, hcW, hW, hM⟩
  have HNZ : Hid (eqn (cn (R c c)) 0 = false) := hnz
  obtain ⟨n, hn⟩ : ∃ n, c + n = W := ⟨W - c, by omega⟩
  have HNW : Hid (c + n = W) := hn
  have eW : W - c = n := by omega
  have HRR : Hid (∀ i j, i < M → j < W → R256 (R i j)) := fun i j hi hj => r256_rl (h0.rl i j hi hj)
  have h1 : w.cell? ⟨rb, c, none⟩ = some (.slice (some ⟨q c, 0, none⟩) W (cp c)) := h0.cell hc
  have hrg : w.rangeAt (q c) (c * 32) (feL (R c c)) := h0.range hc hcW
  have hcp : W ≤ cp c := h0.cap c hc
  have hci : (0 : Int) ≤ (c : Int) := by omega
  have hcM : (c : Int) < (M : Int) := by omega
  have hcWi : (c : Int) ≤ (W : Int) := by omega
  have hWcp : (W : Int) ≤ ((cp c : Nat) : Int) := by omega
  have hcp0 : ¬ cp c = 0 := by omega
  have hni : (0 : Int) < (n : Int) := by omega
  clear hc hcW hW hM hnz hn hcp
  go_enter Tryz.func141, Tryz.ntmps141
  go_wp2_with (refine load_sc rfl _ rfl (q c) (c * 32) (R c c) rfl hrg ?_)
  --CUT0
  refine (Invert_o (R c c) (HRR.out c c HC.out.1 HC.out.2.1) HNZ.out w).mono ?_
  rintro e w1 ⟨rfl, k⟩
  obtain ⟨V, hV⟩ : ∃ V, iv (R c c) = V := ⟨_, rfl⟩
  have HRV : Hid (R256 V) := by show R256 V; rw [← hV]; exact r256_rl (pw_rl _ _)
  have HV : Hid (iv (R c c) = V) := hV
  rw [hV]
  clear hV
  have M1 := h0.keep k
  clear k h1 hrg h0
  go_wp2_with (first
    | (refine alloc_w rfl 24 rfl (.agg z32) zeroSc z32 rfl ?_; intro ib w2 hib B0 k1)
    | (refine store_w B0 rfl 24 _ _ (feC V) rfl rfl rfl feInfo rfl (feC_one _) ?_; intro w3 Bi k2))
  have HIG : Hid (¬ ib ∈ [q c]) := by have := M1.qlt HC.out.1; show ¬ ib ∈ [q c]; simp; omega
  have M2 : Mx w0 w3 rb M W q cp (a1 R c V 0) := (M1.fresh k1 hib k2).congr (fun a b _ _ => a1_0 R c V a b)
  clear k1 k2 B0 hib M1 HNZ
  go_loopw [28] (fun t wr => ∃ i : Nat, i ≤ n ∧ t = .int .i64 (i : Int) ∧ Mx w0 wr rb M W q cp (a1 R c V i) ∧ Blk wr ib (feC V) 24) (fun t _ => (n - intOf t).toNat)
  case atStart => exact ⟨0, Nat.zero_le _, rfl, M2, Bi⟩
  case round =>
    clear M2 Bi
    obtain ⟨i, hi, rfl, Mq, Bi⟩ := hrel
    by_cases h : i < n
    · have hI : (i : Int) < (n : Int) := by omega
      have hI0 : (0 : Int) ≤ (i : Int) := by omega
      have e1 : IntKind.i64.wrap ((i : Int) + 1) = (i : Int) + 1 := by have := HC.out; have := HNW.out; rw [IntKind.wrap_i64]; omega
      have HMs : Hid _ := mN n i h
      have HI : Hid (i < n) := h
      have HIW : Hid (c + i < W) := by have := HNW.out; show c + i < W; omega
      have HRi : Hid (R256 (R c (c + i))) := HRR.out c (c + i) HC.out.1 HIW.out
      clear h hi
      go_wp2_with fail
      --CUT1
      refine wp_region_held_drew (S := fun w' => Chg wr w' [q c]) (by kernel_rfl) ((Chg.refl wr _).drew) (fun hHeld => ?_)
      replace Mq := Mq.drew
      refine tv (v := ?_) 0 (some 31) rfl (by kernel_rfl) (fun _ _ _ h => h) rfl rfl (fun w hSw => ?_) hHeld ?_; rotate_left; (· (go_simp; try with_reducible rfl)); try simp only [Act.put, sA1, sA2, sA3]
      refine tv (v := ?_) 1 (some 32) rfl (by kernel_rfl) (fun _ _ _ h => h) rfl rfl (fun w hSw => ?_) hHeld ?_; rotate_left; (· (go_simp; try with_reducible rfl)); try simp only [Act.put, sA1, sA2, sA3]
      refine tv (v := ?_) 2 (some 33) rfl (by kernel_rfl) (fun _ _ _ h => h) rfl rfl (fun w hSw => ?_) hHeld ?_; rotate_left; (· (go_simp; try with_reducible rfl)); try simp only [Act.put, sA1, sA2, sA3]
      refine tv (v := ?_) 3 (some 34) rfl (by kernel_rfl) (fun _ _ _ h => h) rfl rfl (fun w hSw => ?_) hHeld ?_; rotate_left; (· (go_simp; try with_reducible rfl)); try simp only [Act.put, sA1, sA2, sA3]
      refine tv (v := ?_) 4 (some 35) rfl (by kernel_rfl) (fun _ _ _ h => h) rfl rfl (fun w hSw => ?_) hHeld ?_; rotate_left; (· (go_simp; try with_reducible rfl)); try simp only [Act.put, sA1, sA2, sA3]
      refine take_load 6 (some 37) (feC V) rfl (by kernel_rfl) (by kernel_rfl) (by kernel_rfl) (fun _ _ _ h => h) rfl rfl 24 _ rfl ib rfl 24 _ (fun w h => Bi.chg h HIG.out) Tryz.underlying24 rfl (by first | exact feInfo | kernel_rfl) hHeld ?_
      try simp only [Act.put, sA1, sA2, sA3]
      refine wpAnyH_ready (rs := [5]) (by kernel_rfl) (by simp) ?_
      refine AllReadyH.cons (o := _) rfl (fun K hK => ?_) ?_
      ·
        rw [if_pos (by rfl)]
        refine wp_load_mid 24 _ rfl (q c) (c * 32 + i * 32) rfl (feL (R c (c + i))) _ (Mq.rangeO HC.out.1 HIW.out (a1_at R c V i)) Tryz.underlying24 rfl feInfo ?_
        refine hK.out _ _ (hHeld) (fun hHeld => ?_)
        clear hK K
        try simp only [Act.put, sA1, sA2, sA3]
        refine wpAnyH_ready (rs := [7]) (by kernel_rfl) (by simp) ?_
        refine AllReadyH.cons (o := _) rfl (fun K hK => ?_) ?_
        ·
          go_simp
          refine (Mul_o _ _ HRi.out HRV.out _).mono ?_
          rintro e w5 ⟨rfl, k⟩
          replace Mq := Mq.keep k
          go_wp2_with fail
          refine hK.out _ _ (hHeld.trans1 k.wide) (fun hHeld => ?_)
          clear hK K
          try simp only [Act.put, sA1, sA2, sA3]
          clear k
          refine tv (v := ?_) 8 (some 39) rfl (by kernel_rfl) (fun _ _ _ h => h) rfl rfl (fun w hSw => ?_) hHeld ?_; rotate_left; (· (go_simp; try with_reducible rfl)); try simp only [Act.put, sA1, sA2, sA3]
          refine wpAnyH_ready (rs := [9]) (by kernel_rfl) (by simp) ?_
          refine AllReadyH.cons (o := _) rfl (fun K hK => ?_) ?_
          ·
            rw [if_pos (by rfl)]
            refine wp_store_mx _ _ rfl Mq c c i _ rfl rfl HC.out.1 HIW.out (rl_mod _) ?_
            intro w6 M6 k6
            refine hK.out _ _ (hHeld.trans1 k6) (fun hHeld => ?_)
            clear hK K
            try simp only [Act.put, sA1, sA2, sA3]
            refine wpAnyH_done (by kernel_rfl) ?_ _
            replace Bi := Bi.chg hHeld HIG.out
            clear Mq k6 hHeld
            go_wp2_with fail
            go_roundw
            case rel => exact ⟨i + 1, HI.out, by go_num, M6.congr (fun a b _ _ => a1_step R c V i a b), Bi⟩
            case measure => exact HMs.out
          exact AllReadyH.nil
        exact AllReadyH.nil
      exact AllReadyH.nil
    · obtain rfl : n = i := by omega
      have hI : ¬ (n : Int) < (n : Int) := by omega
      have M3 : Mx w0 wr rb M W q cp (a2 R c V 0) := Mq.congr (fun a b _ hb => a1_end R c V HNW.out a b hb)
      clear Mq h hi Bi HIG
      go_wp2_with fail
      go_loopw [43] (fun t wr => ∃ r : Nat, r ≤ M ∧ t = .int .i64 (r : Int) ∧ Mx w0 wr rb M W q cp (a2 R c V r)) (fun t _ => (M - intOf t).toNat)
      case atStart => exact ⟨0, Nat.zero_le _, rfl, M3⟩
      case round =>
        clear M3
        obtain ⟨r, hr, rfl, Mr⟩ := hrel
        by_cases h : r < M
        · have hR : (r : Int) < (M : Int) := by omega
          have hR0 : (0 : Int) ≤ (r : Int) := by omega
          have e2 : IntKind.i64.wrap ((r : Int) + 1) = (r : Int) + 1 := by have := HC.out; rw [IntKind.wrap_i64]; omega
          have HMr : Hid _ := mN M r h
          have HR : Hid (r < M) := h
          have h2 : wr.cell? ⟨rb, r, none⟩ = some (.slice (some ⟨q r, 0, none⟩) W (cp r)) := Mr.cell h
          have hWr : (W : Int) ≤ ((cp r : Nat) : Int) := by have := Mr.cap r h; omega
          have hr0 : ¬ cp r = 0 := by have := Mr.cap r h; have := HC.out; omega
          clear h hr
          by_cases hrc : r = c
          · subst hrc
            go_wp2_with fail
            --CUT2
            go_roundw
            case rel => exact ⟨r + 1, HR.out, by go_num, Mr.congr (fun a b _ _ => a2_own R r V a b)⟩
            case measure => exact HMr.out
          · have hrci : ¬ (r : Int) = (c : Int) := by omega
            have HRC : Hid (¬ r = c) := hrc
            have hrg : wr.rangeAt (q r) (c * 32) (feL (R r c)) := by
              have := Mr.range HR.out HC.out.2.1
              rwa [a2_r R c V hrc c] at this
            clear hrc
            go_wp2_with (refine load_sc rfl _ rfl (q r) (c * 32) (R r c) rfl hrg ?_)
            --CUT3
            refine (Neg_o (R r c) (HRR.out r c HR.out HC.out.2.1) wr).mono ?_
            rintro e w5 ⟨rfl, k⟩
            obtain ⟨F, hF⟩ : ∃ F, ng (R r c) = F := ⟨_, rfl⟩
            have HRF : Hid (R256 F) := by show R256 F; rw [← hF]; exact r256_mod _
            have HF : Hid (ng (R r c) = F) := hF
            rw [hF]
            clear hF
            replace Mr := Mr.keep k
            clear k h2 hrg
            go_wp2_with (first
              | (refine alloc_w rfl 24 rfl (.agg z32) zeroSc z32 rfl ?_; intro fb w6 hfb B0 k1)
              | (refine store_w B0 rfl 24 _ _ (feC F) rfl rfl rfl feInfo rfl (feC_one _) ?_; intro w7 Bf k2))
            have HFG : Hid (¬ fb ∈ [q r]) := by have := Mr.qlt HR.out; show ¬ fb ∈ [q r]; simp; omega
            have M4 : Mx w0 w7 rb M W q cp (a3 R c V F r 0) := (Mr.fresh k1 hfb k2).congr (fun a b _ _ => a3_0 R c V F r a b)
            clear k1 k2 B0 hfb Mr
            go_loopw [60] (fun t wr => ∃ i : Nat, i ≤ n ∧ t = .int .i64 (i : Int) ∧ Mx w0 wr rb M W q cp (a3 R c V F r i) ∧ Blk wr fb (feC F) 24) (fun t _ => (n - intOf t).toNat)
            case atStart => exact ⟨0, Nat.zero_le _, rfl, M4, Bf⟩
            case round =>
              clear M4 Bf
              obtain ⟨i, hi, rfl, Mq, Bf⟩ := hrel
              by_cases h : i < n
              · have hI : (i : Int) < (n : Int) := by omega
                have hI0 : (0 : Int) ≤ (i : Int) := by omega
                have e1 : IntKind.i64.wrap ((i : Int) + 1) = (i : Int) + 1 := by have := HC.out; have := HNW.out; rw [IntKind.wrap_i64]; omega
                have HMs : Hid _ := mN n i h
                have HI : Hid (i < n) := h
                have HIW : Hid (c + i < W) := by have := HNW.out; show c + i < W; omega
                have HRi : Hid (R256 (R r (c + i))) := HRR.out r (c + i) HR.out HIW.out
                have HRo : Hid (R256 (ml (R c (c + i)) V)) := r256_mod _
                have HRc : Hid (wr.rangeAt (q c) (c * 32 + i * 32) (feL (ml (R c (c + i)) V))) := Mq.rangeO HC.out.1 HIW.out (a3_c R c V F HRC.out i i)
                have HLc : Hid (q c < wr.heap.size) := Mq.qlt HC.out.1
                have HCR : Hid (¬ q c ∈ [q r]) := by show ¬ q c ∈ [q r]; simp; intro x; exact HRC.out (Mq.inj r c HR.out HC.out.1 x.symm)
                clear h hi
                go_wp2_with fail
                refine wp_region_held_drew (S := fun w' => Chg wr w' [q r]) (by kernel_rfl) ((Chg.refl wr _).drew) (fun hHeld => ?_)
                replace Mq := Mq.drew
                refine tv (v := ?_) 0 (some 63) rfl (by kernel_rfl) (fun _ _ _ h => h) rfl rfl (fun w hSw => ?_) hHeld ?_; rotate_left; (· (go_simp; try with_reducible rfl)); try simp only [Act.put, sA1, sA2, sA3]
                refine tv (v := ?_) 1 (some 64) rfl (by kernel_rfl) (fun _ _ _ h => h) rfl rfl (fun w hSw => ?_) hHeld ?_; rotate_left; (· (go_simp; try with_reducible rfl)); try simp only [Act.put, sA1, sA2, sA3]
                refine take_load 2 (some 65) (feC F) rfl (by kernel_rfl) (by kernel_rfl) (by kernel_rfl) (fun _ _ _ h => h) rfl rfl 24 _ rfl fb rfl 24 _ (fun w h => Bf.chg h HFG.out) Tryz.underlying24 rfl (by first | exact feInfo | kernel_rfl) hHeld ?_
                try simp only [Act.put, sA1, sA2, sA3]
                refine tv (v := ?_) 3 (some 66) rfl (by kernel_rfl) (fun _ _ _ h => h) rfl rfl (fun w hSw => ?_) hHeld ?_; rotate_left; (· (go_simp; try with_reducible rfl)); try simp only [Act.put, sA1, sA2, sA3]
                refine tv (v := ?_) 4 (some 67) rfl (by kernel_rfl) (fun _ _ _ h => h) rfl rfl (fun w hSw => ?_) hHeld ?_; rotate_left; (· (go_simp; try with_reducible rfl)); try simp only [Act.put, sA1, sA2, sA3]
                refine tv (v := ?_) 5 (some 68) rfl (by kernel_rfl) (fun _ _ _ h => h) rfl rfl (fun w hSw => ?_) hHeld ?_; rotate_left; (· (go_simp; try with_reducible rfl)); try simp only [Act.put, sA1, sA2, sA3]
                refine tv (v := (.agg (feC (ml (R c (c + i)) V)))) 6 (some 69) rfl (by kernel_rfl) (fun _ _ _ h => h) rfl rfl (fun w hSw => ?_) hHeld ?_
                · exact exec_mid w 24 _ rfl (q c) (c * 32 + i * 32) rfl (feL (ml (R c (c + i)) V)) _ (rangeAt_chg HRc.out HLc.out hSw HCR.out) Tryz.underlying24 rfl feInfo
                try simp only [Act.put, sA1, sA2, sA3]
                refine tv (v := ?_) 7 (some 70) rfl (by kernel_rfl) (fun _ _ _ h => h) rfl rfl (fun w hSw => ?_) hHeld ?_; rotate_left; (· (go_simp; try with_reducible rfl)); try simp only [Act.put, sA1, sA2, sA3]
                refine tv (v := ?_) 8 (some 71) rfl (by kernel_rfl) (fun _ _ _ h => h) rfl rfl (fun w hSw => ?_) hHeld ?_; rotate_left; (· (go_simp; try with_reducible rfl)); try simp only [Act.put, sA1, sA2, sA3]
                refine tv (v := ?_) 9 (some 72) rfl (by kernel_rfl) (fun _ _ _ h => h) rfl rfl (fun w hSw => ?_) hHeld ?_; rotate_left; (· (go_simp; try with_reducible rfl)); try simp only [Act.put, sA1, sA2, sA3]
                refine wpAnyH_ready (rs := [10]) (by kernel_rfl) (by simp) ?_
                refine AllReadyH.cons (o := _) rfl (fun K hK => ?_) ?_
                ·
                  rw [if_pos (by rfl)]
                  refine wp_load_mid 24 _ rfl (q r) (c * 32 + i * 32) rfl (feL (R r (c + i))) _ (Mq.rangeO HR.out HIW.out (a3_at R c V F r HRC.out i)) Tryz.underlying24 rfl feInfo ?_
                  refine hK.out _ _ (hHeld) (fun hHeld => ?_)
                  clear hK K
                  try simp only [Act.put, sA1, sA2, sA3]
                  refine wpAnyH_ready (rs := [11]) (by kernel_rfl) (by simp) ?_
                  refine AllReadyH.cons (o := _) rfl (fun K hK => ?_) ?_
                  ·
                    go_simp
                    refine (MulAdd_o _ _ _ HRF.out HRo.out HRi.out _).mono ?_
                    rintro e w5 ⟨rfl, k⟩
                    replace Mq := Mq.keep k
                    go_wp2_with fail
                    refine hK.out _ _ (hHeld.trans1 k.wide) (fun hHeld => ?_)
                    clear hK K
                    try simp only [Act.put, sA1, sA2, sA3]
                    clear k
                    refine tv (v := ?_) 12 (some 75) rfl (by kernel_rfl) (fun _ _ _ h => h) rfl rfl (fun w hSw => ?_) hHeld ?_; rotate_left; (· (go_simp; try with_reducible rfl)); try simp only [Act.put, sA1, sA2, sA3]
                    refine wpAnyH_ready (rs := [13]) (by kernel_rfl) (by simp) ?_
                    refine AllReadyH.cons (o := _) rfl (fun K hK => ?_) ?_
                    ·
                      rw [if_pos (by rfl)]
                      refine wp_store_mx _ _ rfl Mq r c i _ rfl rfl HR.out HIW.out (rl_mod _) ?_
                      intro w6 M6 k6
                      refine hK.out _ _ (hHeld.trans1 k6) (fun hHeld => ?_)
                      clear hK K
                      try simp only [Act.put, sA1, sA2, sA3]
                      refine wpAnyH_done (by kernel_rfl) ?_ _
                      replace Bf := Bf.chg hHeld HFG.out
                      clear Mq k6 hHeld HRc HLc
                      go_wp2_with fail
                      go_roundw
                      case rel => exact ⟨i + 1, HI.out, by go_num, M6.congr (fun a b _ _ => a3_step R c V F r i a b), Bf⟩
                      case measure => exact HMs.out
                    exact AllReadyH.nil
                  exact AllReadyH.nil
                exact AllReadyH.nil
              · obtain rfl : n = i := by omega
                have hI : ¬ (n : Int) < (n : Int) := by omega
                have M5 : Mx w0 wr rb M W q cp (a2 R c V (r + 1)) := by have q := Mq; rw [← HF.out] at q; exact q.congr (fun a b _ hb => a3_end R c V HRC.out HNW.out a b hb)
                clear Mq h hi Bf
                go_wp2_with fail
                go_roundw
                case rel => exact ⟨r + 1, HR.out, by go_num, M5⟩
                case measure => exact HMr.out
        · obtain rfl : M = r := by omega
          have hR : ¬ (M : Int) < (M : Int) := by omega
          go_wp2_with fail
          go_end0
          refine ⟨rfl, ?_⟩
          rw [HV.out]
          exact Mr.congr (fun a b ha _ => a2_end R c V ha b)
end Go.Proofs.YtoafcaieifjoiaaGreat
