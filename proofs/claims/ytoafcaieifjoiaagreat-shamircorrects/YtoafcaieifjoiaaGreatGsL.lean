/- rimeref07.Locate. -/
import Derived.Test.YtoafcaieifjoiaaGreatGsC
import Derived.Test.YtoafcaieifjoiaaGreatMgT
import Derived.Test.YtoafcaieifjoiaaGreatMgS
import Derived.Deep.DeepAppendWide
set_option linter.unusedVariables false
set_option linter.unusedSimpArgs false
set_option linter.unnecessarySimpa false
namespace Go.Proofs.YtoafcaieifjoiaaGreat
open Go.RowKit N

def pwI (x : Int) : Nat → Int
  | 0 => 1
  | k + 1 => ml (pwI x k) x
theorem pwI_rl (x : Int) : ∀ k, RL (pwI x k)
  | 0 => ⟨by unfold pwI; decide, by unfold pwI; decide⟩
  | _ + 1 => rl_mod _
theorem pwI_r (x : Int) (k : Nat) : R256 (pwI x k) := r256_rl (pwI_rl x k)
theorem zq_pwI (x : Int) : haveI := LN_nz; ∀ k, zq LN (pwI x k) = Q.pwx (zq LN x) k
  | 0 => by haveI := LN_nz; exact zq_1
  | k + 1 => by
    haveI := LN_nz
    show zq LN (ml (pwI x k) x) = Q.pwx (zq LN x) k * zq LN x
    rw [zq_ml L_LN, zq_pwI x k]
/-- The row of share i. -/
def lcR (X Y : Nat → Int) (T e : Nat) : Nat → Nat → Int := fun i k => if k < T + e then pwI (X i) k else if k < T + e + e then ng (ml (Y i) (pwI (X i) (k - (T + e)))) else ml (Y i) (pwI (X i) e)
theorem lcR_rl (X Y : Nat → Int) (T e i k : Nat) : RL (lcR X Y T e i k) := by
  unfold lcR
  split
  · exact pwI_rl _ _
  · split
    · exact rl_mod _
    · exact rl_mod _
theorem blk_tyG {w : World} {k : Nat} {C D : Array Value} {T U : TypeId} (h : Blk w k C T) (g : Blk w k D U) : T = U := by
  unfold Blk at h g
  rw [h] at g
  simp at g
  exact g.2
/-- Rows that were appended. -/
structure Mg (w0 w : World) (v : Value) (M W : Nat) (q cp : Nat → Nat) (R : Nat → Nat → Int) : Prop where
  own : OwnR w w0.heap.size 22 1 v M (rwF q cp W)
  row : ∀ i, i < M → Sp w (q i) W (R i)
  cap : ∀ i, i < M → W ≤ cp i
  inj : ∀ i j, i < M → j < M → q i = q j → i = j
  bases : ∀ i, i < M → w0.heap.size ≤ q i
  chg : Chg w0 w []
theorem Mg.chgB {w0 w w' : World} {v : Value} {M W B : Nat} {q cp : Nat → Nat} {R : Nat → Nat → Int} {l : List Nat} (h : Mg w0 w v M W q cp R) (hc : Chg w w' l) (hq : ∀ i, i < M → q i < B) (hv : ∀ z, z ∈ ob v → z < B) (hl : ∀ z, z ∈ l → B ≤ z ∧ w0.heap.size ≤ z) : Mg w0 w' v M W q cp R :=
  ⟨OwnR.chg h.own hc (fun k hk hm => by have := hv k hk; have := (hl k hm).1; omega), fun i hi => (h.row i hi).chg hc (fun hm => by have := hq i hi; have := (hl _ hm).1; omega), h.cap, h.inj, h.bases, h.chg.trans hc (fun z hz => Or.inr (hl z hz).2)⟩
theorem Mg.keep {w0 w w' : World} {v : Value} {M W : Nat} {q cp : Nat → Nat} {R : Nat → Nat → Int} (h : Mg w0 w v M W q cp R) (k : Chg w w' []) : Mg w0 w' v M W q cp R :=
  ⟨OwnR.chg h.own k (fun _ _ => by simp), fun i hi => (h.row i hi).chg k (by simp), h.cap, h.inj, h.bases, h.chg.trans1 k⟩
theorem Mg.my {w0 w : World} {v : Value} {M W : Nat} {q cp : Nat → Nat} {R : Nat → Nat → Int} (h : Mg w0 w v M W q cp R) (h0 : 0 < M) (hr : ∀ i j, i < M → j < W → RL (R i j)) : ∃ rb rc, v = .slice (some ⟨rb, 0, none⟩) M rc ∧ My w0 w rb M W q cp R := by
  obtain ⟨⟨hn, h1⟩, hF⟩ := h.own
  rcases h1 with ⟨_, hx⟩ | ⟨g, cap, cur, rfl, hg, hh, hc, hm, hs, ht⟩
  · omega
  · refine ⟨g, cap, rfl, ⟨cur, hh, fun i hi => ?_⟩, h.row, h.cap, fun i hi e => ?_, h.inj, hr, hg, h.bases, h.chg⟩
    · have e0 : (cur.toList.take (M * 1))[i]? = (rL 1 M (rwF q cp W))[i]? := by rw [ht]
      have e1 := rL_get (rwF_ok M q cp W) hi (show 0 < 1 by omega)
      rw [Nat.mul_one] at e1
      rw [Nat.add_zero i] at e1
      rw [List.getElem?_take_of_lt (by omega), Array.getElem?_toList, e1] at e0
      exact e0
    · obtain ⟨C, hC, _⟩ := h.row i hi
      rw [e] at hC
      exact absurd (blk_tyG hC hh) (by decide)
theorem row_sp {w : World} {B : Nat} {v : Value} {f : Nat → Int} {n : Nat} (h : Os w B v (liL f n)) (h0 : 0 < n) : ∃ g c, v = .slice (some ⟨g, 0, none⟩) n c ∧ Sp w g n f ∧ B ≤ g ∧ n ≤ c := by
  have h' := h
  unfold Os at h'
  rw [liL_len] at h'
  obtain ⟨⟨hn, h1⟩, hF⟩ := h'
  rcases h1 with ⟨_, hx⟩ | ⟨g, cap, cur, rfl, hg, hh, hc, hm, hs, ht⟩
  · omega
  · refine ⟨g, cap, rfl, ?_, hg, hc⟩
    have h2 := h
    unfold Os at h2
    rw [liL_len] at h2
    exact OwnR.sp h2 (fun i hi => by unfold oS; rw [liL_get _ _ _ hi])
theorem Os.chgP {w w' : World} {base : Nat} {v : Value} {l : List Int} {b : Nat} (h : Os w base v l) (hc : Chg w w' [b]) (hb : ∀ k, k ∈ ob v → ¬ k = b) : Os w' base v l := OwnR.chg h hc (fun k hk => by have := hb k hk; simp; exact this)
theorem fill_row (v : Value) {p : Option Addr} {n c : Nat} (hv : v = .slice p n c) : Instr.fill (fun i => some (i * 1, 1)) ((Array.range (1 * 1)).map ((Value.slice none 0 0).cells[· % (Value.slice none 0 0).cells.size]!)) [(0, v)] = some #[v] := by subst hv; kernel_rfl
theorem rowsRow : ∃ i, Tryz.prog.info? 22 = some i ∧ i.zero = some (.slice none 0 0) ∧ i.size = 1 ∧ i.bytes = 24 := by
  have h : (Tryz.prog.info? 22).map (fun i => (i.zero, i.size, i.bytes)) = some (some (.slice none 0 0), 1, 24) := by kernel_rfl
  cases hi : Tryz.prog.info? 22 with
  | none => rw [hi] at h; simp at h
  | some i => rw [hi] at h; simp at h; exact ⟨i, rfl, h.1, h.2.1, h.2.2⟩
/-- A row is appended. -/
theorem append_mg {w0 w : World} {ops : Array Oper} {rest : List Oper} {o : Oper} {a : Act} {Q : Exit → Act → World → Prop} (hgd : o.guard = none) (so xo : Operand)
    (ho : o.op = .call { callee := .builtin .append, args := #[so, xo], argTypes := #[30, 30] }) (v : Value) (gx g c M W : Nat) (q cp : Nat → Nat) (R : Nat → Nat → Int)
    (hs : a.eval so = v) (hxe : a.eval xo = .slice (some ⟨gx, 0, none⟩) 1 1) (hM : Mg w0 w v M W q cp R) (hx : Blk w gx #[.slice (some ⟨g, 0, none⟩) W c] 22) (hS : Sp w g W (R M)) (hc : W ≤ c) (hg : w0.heap.size ≤ g) (hq : ∀ i, i < M → q i < g) (hl : M ≤ 2000) (hb : ∀ z, z ∈ ob v → ¬ z = g)
    (h : ∀ v' w', Mg w0 w' v' (M + 1) W (fun i => if i = M then g else q i) (fun i => if i = M then c else cp i) R → wpList Tryz.prog ops Q rest (a.put o.dst v') w') : wpList Tryz.prog ops Q (o :: rest) a w := by
  obtain ⟨ii, hi, hz, h1, h2⟩ := rowsRow
  have hR : Rl w 1 (.slice (some ⟨gx, 0, none⟩) 1 1) 1 (fun _ => [.slice (some ⟨g, 0, none⟩) W c]) := ⟨fun _ _ => ⟨rfl, fun v hv => by simp at hv; subst hv; rfl⟩, Or.inr ⟨gx, 0, 1, rfl, Nat.le_refl _, by omega, hx.lt, fun i hi j u hu => by
    obtain rfl : i = 0 := by omega
    have hj : j = 0 := by
      have := (List.getElem?_eq_some_iff.1 hu).1
      simp at this
      exact this
    subst hj
    simp at hu
    subst hu
    rw [hx.cell]
    rfl⟩⟩
  have hob := ob_own hM.own
  refine wpList_append_r hgd so xo 30 ho 22 ii (.slice none 0 0) 1 24 Tryz.underlying30 hi hz h1 h2 rfl (by omega) w0.heap.size v _ M 1 (rwF q cp W) (fun _ => [.slice (some ⟨g, 0, none⟩) W c]) hs hxe hM.own hR (by omega) (by omega) (by omega) (hM.chg.size) ?_
  intro g' cap w' O k _ _
  have hnot : ∀ z C, Blk w z C 24 → ¬ z ∈ ob v := fun z C hz hm => by
    obtain ⟨⟨_, h1⟩, _⟩ := hM.own
    rcases h1 with ⟨rfl, _⟩ | ⟨g2, _, cur, rfl, _, hh, _⟩
    · simp [ob, Value.ownBlock] at hm
    · simp [ob, Value.ownBlock] at hm
      subst hm
      exact absurd (blk_tyG hz hh) (by decide)
  refine h _ w' ⟨O.congr fun j hj => ?_, fun j hj => ?_, fun j hj => ?_, fun i j hi hj e => ?_, fun j hj => ?_, hM.chg.trans k (fun z hz => Or.inr (hob z hz).1)⟩
  · unfold catR rwF
    show _ = [Value.slice (some ⟨if j = M then g else q j, 0, none⟩) W (if j = M then c else cp j)]
    by_cases e : j < M
    · rw [if_pos e, if_neg (by omega), if_neg (by omega)]
    · have : j = M := by omega
      rw [if_neg e, if_pos this, if_pos this]
  · show Sp w' (if j = M then g else q j) W (R j)
    by_cases e : j = M
    · subst e; rw [if_pos rfl]
      obtain ⟨C, hC, _⟩ := id hS
      exact hS.chg k (hnot _ _ hC)
    · rw [if_neg e]
      have hr := hM.row j (by omega)
      obtain ⟨C, hC, _⟩ := id hr
      exact hr.chg k (hnot _ _ hC)
  · show W ≤ if j = M then c else cp j
    by_cases e : j = M
    · rw [if_pos e]; exact hc
    · rw [if_neg e]; exact hM.cap j (by omega)
  · have e' : (if i = M then g else q i) = (if j = M then g else q j) := e
    by_cases a : i = M
    · by_cases b : j = M
      · omega
      · rw [if_pos a, if_neg b] at e'; have := hq j (by omega); omega
    · by_cases b : j = M
      · rw [if_neg a, if_pos b] at e'; have := hq i (by omega); omega
      · rw [if_neg a, if_neg b] at e'; exact hM.inj i j (by omega) (by omega) e'
  · show w0.heap.size ≤ if j = M then g else q j
    by_cases e : j = M
    · rw [if_pos e]; exact hg
    · rw [if_neg e]; exact hM.bases j (by omega)
/-- Nothing is appended to nothing. -/
theorem append_os0 {w : World} {ops : Array Oper} {rest : List Oper} {o : Oper} {a : Act} {Q : Exit → Act → World → Prop} (hgd : o.guard = none) (so xo : Operand)
    (ho : o.op = .call { callee := .builtin .append, args := #[so, xo], argTypes := #[22, 22] }) (base : Nat) (ad : Addr) (m c : Nat) (hm : m = 0) (hs : a.eval so = .slice none 0 0) (hxe : a.eval xo = .slice (some ad) m c) (hbase : base ≤ w.heap.size)
    (h : ∀ v' w', Os w' base v' [] → Chg w w' [] → wpList Tryz.prog ops Q rest (a.put o.dst v') w') : wpList Tryz.prog ops Q (o :: rest) a w := by
  subst hm
  obtain ⟨ii, hi, hz, h1, h2⟩ := scRowL
  refine wpList_append_own_wide w hgd so xo 22 ho base 24 ii (.agg z32) 32 32 Tryz.underlying22 hi hz h1 h2 rfl (by omega) (.slice none 0 0) 0 [] hs (World.ownsRow_nil _ _ _ _) ad 0 c [] hxe rfl (fun j u hj => by simp at hj) (by simp) (by simp [maxLen]) (by omega) hbase ?_
  intro v' w' h3 h4 _
  have e : rL 32 0 (oS []) = [] := List.eq_nil_of_length_eq_zero (by rw [rL_len])
  refine h v' w' ⟨?_, oS_ok _ _⟩ (Chg.grown h4)
  show w'.ownsRow base 24 32 v' 0 (rL 32 0 (oS []))
  rw [e]; exact h3
/-- The locator's numbers. -/
def lcE (u : Nat → Int) (te e : Nat) : Nat → Int := fun j => if j < e then u (te + j) else 1
def LcP (X Y : Nat → Int) (N T e base : Nat) (w' : World) (r : Value) : Prop := haveI := LN_nz;
  (r = .tuple #[.slice none 0 0, .slice none 0 0, .bool false] ∧ ∀ v : Nat → Fin LN, ¬ Q.Sol (zR (lcR X Y T e)) N (T + e + e) v) ∨
  ∃ (s v : Value) (u : Nat → Int), r = .tuple #[s, v, .bool true] ∧ Os w' base v (liL (lcE u (T + e) e) (e + 1)) ∧ (∀ j, j < T + e + e → RL (u j)) ∧ Q.Sol (zR (lcR X Y T e)) N (T + e + e) (fun j => zq LN (u j))
set_option maxHeartbeats 64000000 in
set_option maxRecDepth 100000 in
theorem Locate_r (vx vy : Value) (N T e : Nat) (X Y : Nat → Int) (h0 : 0 < N) (hN : N ≤ 255) (hTe : T + e + e ≤ 255) (hT : 0 < T) (hX : ∀ i, i < N → R256 (X i)) (hY : ∀ i, i < N → R256 (Y i)) (w : World) (hLx : Ls w vx N (nT X)) (hLy : Ls w vy N (nT Y)) :
    Calls Tryz.prog 90 #[vx, vy, .int .i64 (T : Int), .int .i64 (e : Int)] w fun ex w' => ∃ r, ex = .returned r ∧ LcP X Y N T e w.heap.size w' r ∧ Chg w w' [] := by
  obtain ⟨px, cx, rfl, hpx⟩ := hLx.range
  obtain ⟨py, cy, rfl, hpy⟩ := hLy.range
  have HPx : Hid (∀ i, i < N → ∃ g o, px = some ⟨g, o, none⟩ ∧ g < w.heap.size ∧ w.rangeAt g (o + i * 32) (feL (X i))) := fun i hi => by
    obtain ⟨g, o, a, b, c⟩ := hpx i hi
    rw [nT_c _ _ (hX i hi).1] at c
    exact ⟨g, o, a, b, c⟩
  have HPy : Hid (∀ i, i < N → ∃ g o, py = some ⟨g, o, none⟩ ∧ g < w.heap.size ∧ w.rangeAt g (o + i * 32) (feL (Y i))) := fun i hi => by
    obtain ⟨g, o, a, b, c⟩ := hpy i hi
    rw [nT_c _ _ (hY i hi).1] at c
    exact ⟨g, o, a, b, c⟩
  have HX : Hid (∀ i, i < N → R256 (X i)) := hX
  have HY : Hid (∀ i, i < N → R256 (Y i)) := hY
  obtain ⟨te, hte⟩ : ∃ te, T + e = te := ⟨_, rfl⟩
  obtain ⟨W, hW⟩ : ∃ W, te + e = W := ⟨_, rfl⟩
  have HTE : Hid (T + e = te ∧ te + e = W ∧ 0 < T) := ⟨hte, hW, hT⟩
  have HN : Hid (0 < N ∧ N ≤ 255 ∧ W ≤ 255) := ⟨h0, hN, by omega⟩
  have e0 : IntKind.i64.wrap ((T : Int) + (e : Int)) = (te : Int) := by rw [IntKind.wrap_i64]; omega
  obtain ⟨e2, he2⟩ : ∃ z, 2 * e = z := ⟨_, rfl⟩
  have e1 : IntKind.i64.wrap (2 * (e : Int)) = (e2 : Int) := by rw [IntKind.wrap_i64]; omega
  have e3 : IntKind.i64.wrap ((T : Int) + (e2 : Int)) = (W : Int) := by rw [IntKind.wrap_i64]; omega
  obtain ⟨ie, hie, hiz, his, _⟩ := scRowL
  obtain ⟨ir, hir, hirz, hirs, _⟩ := rowsRow
  have M0 : Mg w w (.slice none 0 0) 0 (W + 1) (fun _ => 0) (fun _ => 0) (lcR X Y T e) := ⟨OwnR.nil _ _ _ _ _, fun i hi => absurd hi (Nat.not_lt_zero _), fun i hi => absurd hi (Nat.not_lt_zero _), fun i _ hi => absurd hi (Nat.not_lt_zero _), fun i hi => absurd hi (Nat.not_lt_zero _), Chg.refl _ _⟩
  clear hpx hpy hX hY h0 hN hTe hT hLx hLy hte hW he2
  go_enter Tryz.func90, Tryz.ntmps90
  go_wp2_with fail
  go_loopw [11, 12] (fun t11 t12 wr => ∃ (i : Nat) (q cp : Nat → Nat), i ≤ N ∧ t12 = .int .i64 (i : Int) ∧ Mg w wr t11 i (W + 1) q cp (lcR X Y T e)) (fun _ t _ => (N - intOf t).toNat)
  case atStart => exact ⟨0, _, _, Nat.zero_le _, rfl, M0⟩
  case round =>
    clear M0
    obtain ⟨i, q, cp, hi, rfl, Mr⟩ := hrel
    by_cases h : i < N
    · have hI : (i : Int) < (N : Int) := by omega
      have hI0 : (0 : Int) ≤ (i : Int) := by omega
      have ei : IntKind.i64.wrap ((i : Int) + 1) = (i : Int) + 1 := by have := HN.out; rw [IntKind.wrap_i64]; omega
      have HMo : Hid _ := mN N i h
      have HI : Hid (i < N) := h
      have HRx : Hid (R256 (X i)) := HX.out i h
      have HRy : Hid (R256 (Y i)) := HY.out i h
      obtain ⟨gx, ox, rfl, hgx, hrx⟩ := HPx.out i h
      obtain ⟨gy, oy, rfl, hgy, hry⟩ := HPy.out i h
      have HGXw : Hid (gx < w.heap.size ∧ gy < w.heap.size) := ⟨hgx, hgy⟩
      have HRX : Hid (w.rangeAt gx (ox + i * 32) (feL (X i))) := hrx
      have HRY : Hid (w.rangeAt gy (oy + i * 32) (feL (Y i))) := hry
      clear h hi hgx hgy hrx hry
      go_wp2_with fail
      refine (FromInt_1 wr).mono ?_
      rintro ex w1 ⟨rfl, k⟩
      have M1 := Mr.keep k
      clear k Mr
      go_wp2_with (first
        | (refine alloc_w rfl 24 rfl (.agg z32) zeroSc z32 rfl ?_; intro pb w2 hpb B0 k1)
        | (refine store_w B0 rfl 24 _ _ (feC 1) rfl rfl rfl feInfo rfl (feC_one _) ?_; intro w3 Bp k2))
      --CUT0
      obtain ⟨B, hB⟩ : ∃ B, w3.heap.size = B := ⟨_, rfl⟩
      have HQ1 : Hid (∀ j, j < i → q j < w1.heap.size) := fun j hj => (M1.row j hj).lt
      have HV1 : Hid (∀ z, z ∈ ob u11 → z < w1.heap.size) := fun z hz => (ob_own M1.own z hz).2
      have HB1 : Hid (w1.heap.size ≤ B ∧ pb < B ∧ w1.heap.size ≤ pb ∧ w.heap.size ≤ w1.heap.size) := ⟨by have := k1.size; have := k2.size; omega, by have := Bp.lt; omega, hpb, M1.chg.size⟩
      have M3 := (M1.keep k1).chgB (B := w1.heap.size) k2 HQ1.out HV1.out (fun z hz => by simp at hz; subst hz; have := HB1.out; omega)
      have HQB : Hid (∀ j, j < i → q j < w1.heap.size) := HQ1.out
      have HVB : Hid (∀ z, z ∈ ob u11 → z < w1.heap.size) := HV1.out
      have HPB : Hid (∀ z, z ∈ [pb] → w1.heap.size ≤ z ∧ w.heap.size ≤ z) := fun z hz => by simp at hz; subst hz; have := HB1.out; omega
      have HXP : Hid (¬ gx ∈ [pb]) := by have := HGXw.out; have := HB1.out; show ¬ gx ∈ [pb]; simp; omega
      have HBs3 : Hid (B ≤ w3.heap.size) := Nat.le_of_eq hB.symm
      have O3 : Os w3 B (.slice none 0 0) (liL (lcR X Y T e i) 0) := OwnR.nil _ _ _ _ _
      clear k1 k2 B0 hpb M1 hB
      go_loopw [13, 15] (fun t13 t15 wr => ∃ k : Nat, k ≤ te ∧ t15 = .int .i64 (k : Int) ∧ Os wr B t13 (liL (lcR X Y T e i) k) ∧ Blk wr pb (feC (pwI (X i) k)) 24 ∧ Mg w wr u11 i (W + 1) q cp (lcR X Y T e) ∧ B ≤ wr.heap.size) (fun _ t _ => (te - intOf t).toNat)
      case atStart => exact ⟨0, Nat.zero_le _, rfl, O3, Bp, M3, HBs3.out⟩
      case round =>
        clear O3 Bp M3 HBs3
        obtain ⟨k, hk, rfl, Or, Bp, Mr, hbs⟩ := hrel
        by_cases h : k < te
        · have hK : (k : Int) < (te : Int) := by omega
          have ek : IntKind.i64.wrap ((k : Int) + 1) = (k : Int) + 1 := by have := HN.out; have := HTE.out; rw [IntKind.wrap_i64]; omega
          have HMs : Hid _ := mN te k h
          have HK : Hid (k < te) := h
          have HBsr : Hid (B ≤ wr.heap.size) := hbs
          have HOB : Hid (∀ z, z ∈ ob u13 → w1.heap.size ≤ z ∧ w.heap.size ≤ z) := fun z hz => by have := (ob_own Or z hz).1; have := HB1.out; omega
          have HPO : Hid (¬ pb ∈ ob u13) := fun hz => by have := (ob_own Or pb hz).1; have := HB1.out; omega
          have HS2 : Hid (liL (lcR X Y T e i) k ++ [pwI (X i) k] = liL (lcR X Y T e i) (k + 1)) := by show _ = _; rw [liL_s]; unfold lcR; rw [if_pos (by have := HTE.out; omega)]
          have hFx0 := rangeAt_chg HRX.out HGXw.out.1 Mr.chg (by simp)
          have HGX0 : Hid (gx < wr.heap.size) := Nat.lt_of_lt_of_le HGXw.out.1 Mr.chg.size
          have HXO : Hid (¬ gx ∈ ob u13) := fun hz => by have := (ob_own Or gx hz).1; have := HB1.out; have := HGXw.out; omega
          clear h hk hbs
          go_upto_region 11 with (first
            | (with_reducible refine load_b Bp 24 (.tmp 14) Tryz.underlying24 ?_ ?_ ?_ ?_ ?_ ?_
               · rfl
               · rfl
               · rfl
               · rfl
               · exact feInfo)
            | (with_reducible refine bslice_w ?_ 22 24 (.tmp 35) ?_ (fe (pwI (X i) k)) ?_ (feC (pwI (X i) k)) ie (.agg z32) Tryz.underlying22 hie hiz 32 his ?_ ?_ (fill_sc _) ?_
               · rfl
               · rfl
               · rfl
               · omega
               · omega
               intro gz w6 hgz Bg k6)
            | (with_reducible refine append_os ?_ (.tmp 34) (.tmp 36) ?_ B u13 gz (liL (lcR X Y T e i) k) (pwI (X i) k) ?_ ?_ (Or.chg k6) Bg ?_ ?_ ?_
               · rfl
               · rfl
               · rfl
               · rfl
               · rw [liL_len]; have := HN.out; have := HTE.out; have := HK.out; omega
               · have := HBsr.out; have := k6.size; omega
               intro v7 w7 O7 k7))
          have M7 := (Mr.keep k6).chgB (l := ob u13) k7 HQB.out HVB.out HOB.out
          replace Bp := (Bp.chg k6 (by simp)).chg k7 HPO.out
          replace O7 := HS2.out ▸ O7
          have HBs : Hid (B ≤ w7.heap.size) := by have := k6.size; have := k7.size; have := HBsr.out; show B ≤ w7.heap.size; omega
          have hFx := rangeAt_chg (rangeAt_chg hFx0 HGX0.out k6 (by simp)) (Nat.lt_of_lt_of_le HGX0.out k6.size) k7 HXO.out
          have HGX : Hid (gx < w7.heap.size) := by have := k6.size; have := k7.size; have := HGX0.out; show gx < w7.heap.size; omega
          have HPBB : Hid (∀ z, z ∈ ob v7 → ¬ z = pb) := fun z hz => by have := (ob_own O7 z hz).1; have := HB1.out; show ¬ z = pb; omega
          clear k6 k7 hgz Bg Or Mr hFx0 HGX0 HOB HPO HXO HBsr
          rename Os w7 B v7 _ => Or
          --CUT1
          refine wp_region_held_drew (S := fun w' => Chg w7 w' [pb]) (by kernel_rfl) ((Chg.refl w7 _).drew) (fun hHeld => ?_)
          replace Bp : Blk w7.drew pb (feC (pwI (X i) k)) 24 := Bp
          refine tv (v := ?_) 1 (some 39) rfl (by kernel_rfl) (fun _ _ _ h => h) rfl rfl (fun w hSw => ?_) hHeld ?_; rotate_left; (· (go_simp; try with_reducible rfl)); try simp only [Act.put, sA1, sA2, sA3]
          refine tv (v := ?_) 2 (some 40) rfl (by kernel_rfl) (fun _ _ _ h => h) rfl rfl (fun w hSw => ?_) hHeld ?_; rotate_left; (· (go_simp; try with_reducible rfl)); try simp only [Act.put, sA1, sA2, sA3]
          refine tv (v := ?_) 3 (some 41) rfl (by kernel_rfl) (fun _ _ _ h => h) rfl rfl (fun w hSw => ?_) hHeld ?_; rotate_left; (· (go_simp; try with_reducible rfl)); try simp only [Act.put, sA1, sA2, sA3]
          refine tv (v := (.agg (feC (X i)))) 4 (some 42) rfl (by kernel_rfl) (fun _ _ _ h => h) rfl rfl (fun w hSw => ?_) hHeld ?_
          · exact exec_load_m w 24 _ rfl gx (ox + i * 32) rfl (feL (X i)) _ (rangeAt_chg hFx HGX.out hSw HXP.out) Tryz.underlying24 rfl feInfo
          try simp only [Act.put, sA1, sA2, sA3]
          refine wpAnyH_ready (rs := [0]) (by kernel_rfl) (by simp) ?_
          refine AllReadyH.cons (o := _) rfl (fun K hK => ?_) ?_
          ·
            rw [if_pos (by rfl)]
            refine wp_load_mid 24 _ rfl pb (0) rfl (feL (pwI (X i) k)) _ (blk_range Bp) Tryz.underlying24 rfl feInfo ?_
            refine hK.out _ _ (hHeld) (fun hHeld => ?_)
            clear hK K
            try simp only [Act.put, sA1, sA2, sA3]
            refine wpAnyH_ready (rs := [5]) (by kernel_rfl) (by simp) ?_
            refine AllReadyH.cons (o := _) rfl (fun K hK => ?_) ?_
            ·
              go_simp
              refine (Mul_q _ _ (pwI_r (X i) k) HRx.out _).mono ?_
              rintro e w5 ⟨rfl, k⟩
              replace Bp := Bp.chg k (by simp)
              go_wp2_with fail
              refine hK.out _ _ (hHeld.trans1 k.wide) (fun hHeld => ?_)
              clear hK K
              try simp only [Act.put, sA1, sA2, sA3]
              clear k
              refine wpAnyH_ready (rs := [6]) (by kernel_rfl) (by simp) ?_
              refine AllReadyH.cons (o := _) rfl (fun K hK => ?_) ?_
              ·
                rw [if_pos (by rfl)]
                refine wp_store_w Bp 24 _ _ (feC (ml (pwI (X i) k) (X i))) rfl rfl rfl feInfo rfl (feC_one _) ?_
                intro w8 B8 k8
                refine hK.out _ _ (hHeld.trans1 k8) (fun hHeld => ?_)
                clear hK K
                try simp only [Act.put, sA1, sA2, sA3]
                refine wpAnyH_done (by kernel_rfl) ?_ _
                have M8 := M7.chgB (l := [pb]) hHeld HQB.out HVB.out HPB.out
                have O8 := Or.chgP hHeld HPBB.out
                have HS8 : Hid (B ≤ w8.heap.size) := by have := hHeld.size; have := HBs.out; show B ≤ w8.heap.size; omega
                have B9 : Blk w8 pb (feC (pwI (X i) (k + 1))) 24 := B8
                clear Bp k8 hHeld hFx B8
                go_wp2_with fail
                go_roundw
                case rel => exact ⟨k + 1, HK.out, by go_num, O8, B9, M8, HS8.out⟩
                case measure => exact HMs.out
              exact AllReadyH.nil
            exact AllReadyH.nil
          exact AllReadyH.nil
        · obtain rfl : te = k := by omega
          have hK : ¬ (te : Int) < (te : Int) := by omega
          have HBsr : Hid (B ≤ wr.heap.size) := hbs
          have HPBB : Hid (∀ z, z ∈ ob u13 → ¬ z = pb) := fun z hz => by have := (ob_own Or z hz).1; have := HB1.out; show ¬ z = pb; omega
          clear h hk hbs
          go_wp2_with fail
          refine (FromInt_1 wr).mono ?_
          rintro ex w4 ⟨rfl, k⟩
          have M4 := Mr.keep k
          have O4 := Or.chg k
          have B4 := Bp.chg k (by simp)
          have HBs4 : Hid (B ≤ w4.heap.size) := by have := k.size; have := HBsr.out; show B ≤ w4.heap.size; omega
          clear k Mr Or Bp HBsr
          go_wp2_with (refine store_w B4 rfl 24 _ _ (feC 1) rfl rfl rfl feInfo rfl (feC_one _) ?_; intro w5 Bp k2)
          have M5 := M4.chgB (l := [pb]) k2 HQB.out HVB.out HPB.out
          have O5 : Os w5 B u13 (liL (lcR X Y T e i) (te + 0)) := O4.chgP k2 HPBB.out
          have HBs5 : Hid (B ≤ w5.heap.size) := by have := k2.size; have := HBs4.out; show B ≤ w5.heap.size; omega
          clear k2 M4 O4 B4 HBs4 HPBB
          --CUT2
          go_loopw [13, 16] (fun t13 t16 wr => ∃ k : Nat, k ≤ e ∧ t16 = .int .i64 (k : Int) ∧ Os wr B t13 (liL (lcR X Y T e i) (te + k)) ∧ Blk wr pb (feC (pwI (X i) k)) 24 ∧ Mg w wr u11 i (W + 1) q cp (lcR X Y T e) ∧ B ≤ wr.heap.size) (fun _ t _ => (e - intOf t).toNat)
          case atStart => exact ⟨0, Nat.zero_le _, rfl, O5, Bp, M5, HBs5.out⟩
          case round =>
            clear O5 Bp M5 HBs5
            obtain ⟨k, hk, rfl, Or, Bp, Mr, hbs⟩ := hrel
            have HBs : Hid (B ≤ wr.heap.size) := hbs
            have HOB : Hid (∀ z, z ∈ ob u13 → w1.heap.size ≤ z ∧ w.heap.size ≤ z) := fun z hz => by have := (ob_own Or z hz).1; have := HB1.out; omega
            have HPO : Hid (¬ pb ∈ ob u13) := fun hz => by have := (ob_own Or pb hz).1; have := HB1.out; omega
            have HXO : Hid (¬ gx ∈ ob u13) := fun hz => by have := (ob_own Or gx hz).1; have := HB1.out; have := HGXw.out; omega
            have HYO : Hid (¬ gy ∈ ob u13) := fun hz => by have := (ob_own Or gy hz).1; have := HB1.out; have := HGXw.out; omega
            have hFx := rangeAt_chg HRX.out HGXw.out.1 Mr.chg (by simp)
            have hFy := rangeAt_chg HRY.out HGXw.out.2 Mr.chg (by simp)
            have HGX : Hid (gx < wr.heap.size) := Nat.lt_of_lt_of_le HGXw.out.1 Mr.chg.size
            have HGY : Hid (gy < wr.heap.size) := Nat.lt_of_lt_of_le HGXw.out.2 Mr.chg.size
            by_cases h : k < e
            · have hK : (k : Int) < (e : Int) := by omega
              have ek : IntKind.i64.wrap ((k : Int) + 1) = (k : Int) + 1 := by have := HN.out; have := HTE.out; rw [IntKind.wrap_i64]; omega
              have HMs : Hid _ := mN e k h
              have HK : Hid (k < e) := h
              have HKK : Hid (te + k ≤ 255) := by have := HN.out; have := HTE.out; show te + k ≤ 255; omega
              have HS2 : Hid (liL (lcR X Y T e i) (te + k) ++ [ng (ml (Y i) (pwI (X i) k))] = liL (lcR X Y T e i) (te + (k + 1))) := by
                show _ = liL _ (te + k + 1)
                rw [liL_s]
                unfold lcR
                rw [if_neg (by have := HTE.out; omega), if_pos (by have := HTE.out; omega), show te + k - (T + e) = k by have := HTE.out; omega]
              clear h hk hbs
              go_wp2_with fail
              refine wp_region_held_drew (S := fun w' => Chg wr w' (ob u13)) (by kernel_rfl) ((Chg.refl wr _).drew) (fun hHeld => ?_)
              refine tv (v := ?_) 0 (some 50) rfl (by kernel_rfl) (fun _ _ _ h => h) rfl rfl (fun w hSw => ?_) hHeld ?_; rotate_left; (· (go_simp; try with_reducible rfl)); try simp only [Act.put, sA1, sA2, sA3]
              refine tv (v := ?_) 1 (some 51) rfl (by kernel_rfl) (fun _ _ _ h => h) rfl rfl (fun w hSw => ?_) hHeld ?_; rotate_left; (· (go_simp; try with_reducible rfl)); try simp only [Act.put, sA1, sA2, sA3]
              refine tv (v := ?_) 2 (some 52) rfl (by kernel_rfl) (fun _ _ _ h => h) rfl rfl (fun w hSw => ?_) hHeld ?_; rotate_left; (· (go_simp; try with_reducible rfl)); try simp only [Act.put, sA1, sA2, sA3]
              refine tv (v := ?_) 3 (some 53) rfl (by kernel_rfl) (fun _ _ _ h => h) rfl rfl (fun w hSw => ?_) hHeld ?_; rotate_left; (· (go_simp; try with_reducible rfl)); try simp only [Act.put, sA1, sA2, sA3]
              refine tv (v := (.agg (feC (Y i)))) 4 (some 54) rfl (by kernel_rfl) (fun _ _ _ h => h) rfl rfl (fun w hSw => ?_) hHeld ?_
              · exact exec_load_m w 24 _ rfl gy (oy + i * 32) rfl (feL (Y i)) _ (rangeAt_chg hFy HGY.out hSw HYO.out) Tryz.underlying24 rfl feInfo
              try simp only [Act.put, sA1, sA2, sA3]
              refine take_load 5 (some 55) (feC (pwI (X i) k)) rfl (by kernel_rfl) (by kernel_rfl) (by kernel_rfl) (fun _ _ _ h => h) rfl rfl 24 _ rfl pb rfl 24 _ (fun w h => Bp.chg h HPO.out) Tryz.underlying24 rfl (by first | exact feInfo | kernel_rfl) hHeld ?_
              try simp only [Act.put, sA1, sA2, sA3]
              refine wpAnyH_ready (rs := [6]) (by kernel_rfl) (by simp) ?_
              refine AllReadyH.cons (o := _) rfl (fun K hK => ?_) ?_
              ·
                go_simp
                refine (Mul_q _ _ HRy.out (pwI_r (X i) k) _).mono ?_
                rintro e w3 ⟨rfl, k3⟩
                go_wp2_with fail
                refine hK.out _ _ (hHeld.trans1 k3.wide) (fun hHeld => ?_)
                clear hK K
                try simp only [Act.put, sA1, sA2, sA3]
                have C3 : Chg wr w3 [] := (Chg.refl wr []).drew.trans1 k3
                clear k3
                refine wpAnyH_ready (rs := [7]) (by kernel_rfl) (by simp) ?_
                refine AllReadyH.cons (o := _) rfl (fun K hK => ?_) ?_
                ·
                  go_simp
                  refine (Neg_q _ (r256_mod _) _).mono ?_
                  rintro e w4 ⟨rfl, k4⟩
                  go_wp2_with fail
                  refine hK.out _ _ (hHeld.trans1 k4.wide) (fun hHeld => ?_)
                  clear hK K
                  try simp only [Act.put, sA1, sA2, sA3]
                  replace C3 := C3.trans1 k4
                  clear k4
                  refine wpAnyH_ready (rs := [8]) (by kernel_rfl) (by simp) ?_
                  refine AllReadyH.cons (o := _) rfl (fun K hK => ?_) ?_
                  ·
                    rw [if_pos (by rfl)]
                    refine wp_bslice_w 22 24 (.tmp 57) rfl (fe (ng (ml (Y i) (pwI (X i) k)))) rfl (feC (ng (ml (Y i) (pwI (X i) k)))) ie (.agg z32) Tryz.underlying22 hie hiz 32 his (by omega) (by omega) (fill_sc _) ?_
                    intro gz w5 hgz Bg k5
                    change K (Act.put _ (some 58) _) _
                    refine hK.out _ _ (hHeld.trans1 k5.wide) (fun hHeld => ?_)
                    clear hK K
                    try simp only [Act.put, sA1, sA2, sA3]
                    refine wpAnyH_ready (rs := [9]) (by kernel_rfl) (by simp) ?_
                    refine AllReadyH.cons (o := _) rfl (fun K hK => ?_) ?_
                    ·
                      rw [if_pos (by rfl)]
                      refine wp_append_os (.tmp 50) (.tmp 58) rfl B u13 gz (liL (lcR X Y T e i) (te + k)) (ng (ml (Y i) (pwI (X i) k))) rfl rfl ((Or.chg C3).chg k5) Bg (by rw [liL_len]; have := HN.out; have := HKK.out; omega) (by have := HBs.out; have := C3.size; have := k5.size; omega) ?_
                      intro v7 w7 O7 k7
                      change K (Act.put _ (some 59) _) _
                      refine hK.out _ _ (hHeld.trans1 k7) (fun hHeld => ?_)
                      clear hK K
                      try simp only [Act.put, sA1, sA2, sA3]
                      refine tv (v := ?_) 10 (some 13) rfl (by kernel_rfl) (fun _ _ _ h => h) rfl rfl (fun w hSw => ?_) hHeld ?_; rotate_left; (· (go_simp; try with_reducible rfl)); try simp only [Act.put, sA1, sA2, sA3]
                      refine wpAnyH_done (by kernel_rfl) ?_ _
                      have M7 := Mr.chgB (l := ob u13) hHeld HQB.out HVB.out HOB.out
                      replace Bp := Bp.chg hHeld HPO.out
                      replace O7 := HS2.out ▸ O7
                      have HBs7 : Hid (B ≤ w7.heap.size) := by have := hHeld.size; have := HBs.out; show B ≤ w7.heap.size; omega
                      have hFx7 := rangeAt_chg hFx HGX.out hHeld HXO.out
                      have HGX7 : Hid (gx < w7.heap.size) := Nat.lt_of_lt_of_le HGX.out hHeld.size
                      have HPBO7 : Hid (∀ z, z ∈ ob v7 → B ≤ z) := fun z hz => (ob_own O7 z hz).1
                      have HPBB : Hid (∀ z, z ∈ ob v7 → ¬ z = pb) := fun z hz => by have := (ob_own O7 z hz).1; have := HB1.out; show ¬ z = pb; omega
                      clear k7 k5 C3 hHeld hgz Bg Or Mr hFx hFy HBs HGX HOB HPO HYO HXO
                      rename Os w7 B v7 _ => Or
                      rename Hid (B ≤ w7.heap.size) => HBs
                      rename Hid (gx < w7.heap.size) => HGX
                      rename w7.rangeAt gx _ _ => hFx
                      go_wp2_with fail
                      refine wp_region_held_drew (S := fun w' => Chg w7 w' [pb]) (by kernel_rfl) ((Chg.refl w7 _).drew) (fun hHeld => ?_)
                      replace Bp : Blk w7.drew pb (feC (pwI (X i) k)) 24 := Bp
                      refine tv (v := ?_) 1 (some 61) rfl (by kernel_rfl) (fun _ _ _ h => h) rfl rfl (fun w hSw => ?_) hHeld ?_; rotate_left; (· (go_simp; try with_reducible rfl)); try simp only [Act.put, sA1, sA2, sA3]
                      refine tv (v := ?_) 2 (some 62) rfl (by kernel_rfl) (fun _ _ _ h => h) rfl rfl (fun w hSw => ?_) hHeld ?_; rotate_left; (· (go_simp; try with_reducible rfl)); try simp only [Act.put, sA1, sA2, sA3]
                      refine tv (v := ?_) 3 (some 63) rfl (by kernel_rfl) (fun _ _ _ h => h) rfl rfl (fun w hSw => ?_) hHeld ?_; rotate_left; (· (go_simp; try with_reducible rfl)); try simp only [Act.put, sA1, sA2, sA3]
                      refine tv (v := (.agg (feC (X i)))) 4 (some 64) rfl (by kernel_rfl) (fun _ _ _ h => h) rfl rfl (fun w hSw => ?_) hHeld ?_
                      · exact exec_load_m w 24 _ rfl gx (ox + i * 32) rfl (feL (X i)) _ (rangeAt_chg hFx HGX.out hSw HXP.out) Tryz.underlying24 rfl feInfo
                      try simp only [Act.put, sA1, sA2, sA3]
                      refine wpAnyH_ready (rs := [0]) (by kernel_rfl) (by simp) ?_
                      refine AllReadyH.cons (o := _) rfl (fun K hK => ?_) ?_
                      ·
                        rw [if_pos (by rfl)]
                        refine wp_load_mid 24 _ rfl pb (0) rfl (feL (pwI (X i) k)) _ (blk_range Bp) Tryz.underlying24 rfl feInfo ?_
                        refine hK.out _ _ (hHeld) (fun hHeld => ?_)
                        clear hK K
                        try simp only [Act.put, sA1, sA2, sA3]
                        refine wpAnyH_ready (rs := [5]) (by kernel_rfl) (by simp) ?_
                        refine AllReadyH.cons (o := _) rfl (fun K hK => ?_) ?_
                        ·
                          go_simp
                          refine (Mul_q _ _ (pwI_r (X i) k) HRx.out _).mono ?_
                          rintro e w5 ⟨rfl, k⟩
                          replace Bp := Bp.chg k (by simp)
                          go_wp2_with fail
                          refine hK.out _ _ (hHeld.trans1 k.wide) (fun hHeld => ?_)
                          clear hK K
                          try simp only [Act.put, sA1, sA2, sA3]
                          clear k
                          refine wpAnyH_ready (rs := [6]) (by kernel_rfl) (by simp) ?_
                          refine AllReadyH.cons (o := _) rfl (fun K hK => ?_) ?_
                          ·
                            rw [if_pos (by rfl)]
                            refine wp_store_w Bp 24 _ _ (feC (ml (pwI (X i) k) (X i))) rfl rfl rfl feInfo rfl (feC_one _) ?_
                            intro w8 B8 k8
                            refine hK.out _ _ (hHeld.trans1 k8) (fun hHeld => ?_)
                            clear hK K
                            try simp only [Act.put, sA1, sA2, sA3]
                            refine wpAnyH_done (by kernel_rfl) ?_ _
                            have M8 := M7.chgB (l := [pb]) hHeld HQB.out HVB.out HPB.out
                            have O8 := Or.chgP hHeld HPBB.out
                            have HS8 : Hid (B ≤ w8.heap.size) := by have := hHeld.size; have := HBs.out; show B ≤ w8.heap.size; omega
                            have B9 : Blk w8 pb (feC (pwI (X i) (k + 1))) 24 := B8
                            clear Bp k8 hHeld hFx B8
                            go_wp2_with fail
                            go_roundw
                            case rel => exact ⟨k + 1, HK.out, by go_num, O8, B9, M8, HS8.out⟩
                            case measure => exact HMs.out
                          exact AllReadyH.nil
                        exact AllReadyH.nil
                      exact AllReadyH.nil
                    exact AllReadyH.nil
                  exact AllReadyH.nil
                exact AllReadyH.nil
              exact AllReadyH.nil
            · obtain rfl : e = k := by omega
              have hK : ¬ (e : Int) < (e : Int) := by omega
              have HKK : Hid (te + e ≤ 255) := by have := HN.out; have := HTE.out; show te + e ≤ 255; omega
              have HS2 : Hid (liL (lcR X Y T e i) (te + e) ++ [ml (Y i) (pwI (X i) e)] = liL (lcR X Y T e i) (W + 1)) := by
                show _ = liL _ (W + 1)
                have hw : W = te + e := by have := HTE.out; omega
                rw [hw, liL_s]
                unfold lcR
                rw [if_neg (by have := HTE.out; omega), if_neg (by have := HTE.out; omega)]
              clear h hk hbs
              go_wp2_with fail
              refine wp_region_held_drew (S := fun w' => Chg wr w' (ob u13)) (by kernel_rfl) ((Chg.refl wr _).drew) (fun hHeld => ?_)
              refine tv (v := ?_) 0 (some 66) rfl (by kernel_rfl) (fun _ _ _ h => h) rfl rfl (fun w hSw => ?_) hHeld ?_; rotate_left; (· (go_simp; try with_reducible rfl)); try simp only [Act.put, sA1, sA2, sA3]
              refine tv (v := ?_) 1 (some 67) rfl (by kernel_rfl) (fun _ _ _ h => h) rfl rfl (fun w hSw => ?_) hHeld ?_; rotate_left; (· (go_simp; try with_reducible rfl)); try simp only [Act.put, sA1, sA2, sA3]
              refine tv (v := ?_) 2 (some 68) rfl (by kernel_rfl) (fun _ _ _ h => h) rfl rfl (fun w hSw => ?_) hHeld ?_; rotate_left; (· (go_simp; try with_reducible rfl)); try simp only [Act.put, sA1, sA2, sA3]
              refine tv (v := ?_) 3 (some 69) rfl (by kernel_rfl) (fun _ _ _ h => h) rfl rfl (fun w hSw => ?_) hHeld ?_; rotate_left; (· (go_simp; try with_reducible rfl)); try simp only [Act.put, sA1, sA2, sA3]
              refine tv (v := (.agg (feC (Y i)))) 4 (some 70) rfl (by kernel_rfl) (fun _ _ _ h => h) rfl rfl (fun w hSw => ?_) hHeld ?_
              · exact exec_load_m w 24 _ rfl gy (oy + i * 32) rfl (feL (Y i)) _ (rangeAt_chg hFy HGY.out hSw HYO.out) Tryz.underlying24 rfl feInfo
              try simp only [Act.put, sA1, sA2, sA3]
              refine take_load 5 (some 71) (feC (pwI (X i) e)) rfl (by kernel_rfl) (by kernel_rfl) (by kernel_rfl) (fun _ _ _ h => h) rfl rfl 24 _ rfl pb rfl 24 _ (fun w h => Bp.chg h HPO.out) Tryz.underlying24 rfl (by first | exact feInfo | kernel_rfl) hHeld ?_
              try simp only [Act.put, sA1, sA2, sA3]
              refine wpAnyH_ready (rs := [6]) (by kernel_rfl) (by simp) ?_
              refine AllReadyH.cons (o := _) rfl (fun K hK => ?_) ?_
              ·
                go_simp
                refine (Mul_q _ _ HRy.out (pwI_r (X i) e) _).mono ?_
                rintro e w3 ⟨rfl, k3⟩
                go_wp2_with fail
                refine hK.out _ _ (hHeld.trans1 k3.wide) (fun hHeld => ?_)
                clear hK K
                try simp only [Act.put, sA1, sA2, sA3]
                have C3 : Chg wr w3 [] := (Chg.refl wr []).drew.trans1 k3
                clear k3
                refine wpAnyH_ready (rs := [7]) (by kernel_rfl) (by simp) ?_
                refine AllReadyH.cons (o := _) rfl (fun K hK => ?_) ?_
                ·
                  rw [if_pos (by rfl)]
                  refine wp_bslice_w 22 24 (.tmp 72) rfl (fe (ml (Y i) (pwI (X i) e))) rfl (feC (ml (Y i) (pwI (X i) e))) ie (.agg z32) Tryz.underlying22 hie hiz 32 his (by omega) (by omega) (fill_sc _) ?_
                  intro gz w5 hgz Bg k5
                  change K (Act.put _ (some 73) _) _
                  refine hK.out _ _ (hHeld.trans1 k5.wide) (fun hHeld => ?_)
                  clear hK K
                  try simp only [Act.put, sA1, sA2, sA3]
                  refine wpAnyH_ready (rs := [8]) (by kernel_rfl) (by simp) ?_
                  refine AllReadyH.cons (o := _) rfl (fun K hK => ?_) ?_
                  ·
                    rw [if_pos (by rfl)]
                    refine wp_append_os (.tmp 66) (.tmp 73) rfl B u13 gz (liL (lcR X Y T e i) (te + e)) (ml (Y i) (pwI (X i) e)) rfl rfl ((Or.chg C3).chg k5) Bg (by rw [liL_len]; have := HN.out; have := HKK.out; omega) (by have := HBs.out; have := C3.size; have := k5.size; omega) ?_
                    intro v7 w7 O7 k7
                    change K (Act.put _ (some 74) _) _
                    refine hK.out _ _ (hHeld.trans1 k7) (fun hHeld => ?_)
                    clear hK K
                    try simp only [Act.put, sA1, sA2, sA3]
                    refine tv (v := ?_) 9 (some 13) rfl (by kernel_rfl) (fun _ _ _ h => h) rfl rfl (fun w hSw => ?_) hHeld ?_; rotate_left; (· (go_simp; try with_reducible rfl)); try simp only [Act.put, sA1, sA2, sA3]
                    refine wpAnyH_done (by kernel_rfl) ?_ _
                    have M7 := Mr.chgB (l := ob u13) hHeld HQB.out HVB.out HOB.out
                    replace O7 := HS2.out ▸ O7
                    have HBs7 : Hid (B ≤ w7.heap.size) := by have := hHeld.size; have := HBs.out; show B ≤ w7.heap.size; omega
                    clear k7 k5 C3 hHeld hgz Bg Or Mr hFx hFy Bp
                    obtain ⟨g7, c7, rfl, S7, hg7, hc7⟩ := row_sp O7 (by have := HTE.out; omega)
                    have HG7 : Hid (B ≤ g7 ∧ W + 1 ≤ c7) := ⟨hg7, hc7⟩
                    have HFR := fill_row (.slice (some ⟨g7, 0, none⟩) (W + 1) c7) rfl
                    clear hg7 hc7 O7
                    go_wp2_with (first
                      | (with_reducible refine bslice_w ?_ 30 22 (.tmp 76) ?_ (.slice (some ⟨g7, 0, none⟩) (W + 1) c7) ?_ #[.slice (some ⟨g7, 0, none⟩) (W + 1) c7] ir (.slice none 0 0) Tryz.underlying30 hir hirz 1 hirs ?_ ?_ HFR ?_
                         · rfl
                         · rfl
                         · rfl
                         · omega
                         · omega
                         intro gr w9 hgr Bw k9)
                      | (with_reducible refine append_mg ?_ (.tmp 75) (.tmp 77) ?_ u11 gr g7 c7 i (W + 1) q cp (lcR X Y T e) ?_ ?_ (M7.keep k9) Bw (S7.chg k9 (by simp)) HG7.out.2 ?_ ?_ ?_ ?_ ?_
                         · rfl
                         · rfl
                         · rfl
                         · rfl
                         · have := HG7.out; have := HB1.out; omega
                         · intro j hj; have := HQB.out j hj; have := HG7.out; have := HB1.out; omega
                         · have := HI.out; have := HN.out; omega
                         · intro z hz; have := HVB.out z hz; have := HG7.out; have := HB1.out; omega
                         intro v10 w10 M10))
                    --CUT3
                    clear M7 S7 k9 Bw hgr
                    go_roundw
                    case rel => exact ⟨i + 1, _, _, HI.out, by go_num, M10⟩
                    case measure => exact HMo.out
                  exact AllReadyH.nil
                exact AllReadyH.nil
              exact AllReadyH.nil
    · obtain rfl : N = i := by omega
      have hI : ¬ (N : Int) < (N : Int) := by omega
      obtain ⟨rb, rc, rfl, My0⟩ := Mr.my HN.out.1 (fun a b _ _ => lcR_rl X Y T e a b)
      clear h hi Mr
      go_wp2_with fail
      --CUT4
      refine (solved_r rb rc N W HN.out.2.1 (by have := HN.out; omega) q cp _ w wr My0).mono ?_
      rintro ex w3 ⟨x, rfl, hso, C⟩
      clear My0
      have HWW : Hid (T + e + e = W) := by have := HTE.out; show T + e + e = W; omega
      rcases hso with ⟨rfl, hno⟩ | ⟨obk, u, rfl, hob, So, hu, hsol⟩
      · have HNo : Hid (haveI := LN_nz; ∀ v : Nat → Fin LN, ¬ Q.Sol (zR (lcR X Y T e)) N (T + e + e) v) := by rw [HWW.out]; exact hno
        clear hno
        go_wp2_with fail
        go_ret3
        exact ⟨_, rfl, Or.inl ⟨rfl, HNo.out⟩, C⟩
      · have HU : Hid (∀ j, j < W → RL (u j)) := hu
        have HSo : Hid (haveI := LN_nz; Q.Sol (zR (lcR X Y T e)) N (T + e + e) (fun j => zq LN (u j))) := by rw [HWW.out]; exact hsol
        have hteW : (te : Int) ≤ (W : Int) := by have := HTE.out; omega
        have hte0 : (0 : Int) ≤ (te : Int) := by omega
        have ete : W - te = e := by have := HTE.out; omega
        have HCz : Hid (w.heap.size ≤ w3.heap.size) := C.size
        have HLs : Hid (∀ w', Chg w3 w' [] → 0 < e → Ls w' (.slice (some ⟨obk, te * 32, none⟩) e e) e (fun j => nT u (te + j))) := fun w' k he => by
          have z := (So.chg k (by simp)).part (by have := HN.out; omega) (fun j hj => r256_rl (hu j hj)) (i := te) (n := e) (by have := HTE.out; omega)
          rwa [ete] at z
        clear hu hsol hob
        by_cases he : e = 0
        · have HE0 : Hid (e = 0) := he
          obtain rfl : te = W := by have := HTE.out; omega
          clear ete he hteW
          go_wp2_with (first
            | (with_reducible refine append_os0 ?_ (.tmp 90) (.tmp 95) ?_ w.heap.size ⟨obk, 0, none⟩ 0 0 rfl ?_ ?_ HCz.out ?_
               · rfl
               · rfl
               · rfl
               · rfl
               intro v4 w30 O0 k0)
            | (with_reducible refine append_os0 ?_ (.tmp 90) (.tmp 95) ?_ w.heap.size ⟨obk, te * 32, none⟩ 0 0 rfl ?_ ?_ HCz.out ?_
               · rfl
               · rfl
               · rfl
               · rfl
               intro v4 w30 O0 k0))
          --CUT5
          have HOB4 : Hid (∀ z, z ∈ ob v4 → w.heap.size ≤ z) := fun z hz => (ob_own O0 z hz).1
          have HC30 : Hid (w3.heap.size ≤ w30.heap.size) := k0.size
          replace C := C.trans1 k0
          clear k0
          refine (FromInt_1 _).mono ?_
          rintro ex w4 ⟨rfl, k⟩
          go_wp2_with (first
            | (with_reducible refine bslice_w ?_ 22 24 (.tmp 98) ?_ (fe 1) ?_ (feC 1) ie (.agg z32) Tryz.underlying22 hie hiz 32 his ?_ ?_ (fill_sc _) ?_
               · rfl
               · rfl
               · rfl
               · omega
               · omega
               intro gz w6 hgz Bg k6)
            | (with_reducible refine append_os ?_ (.tmp 97) (.tmp 99) ?_ w.heap.size v4 gz [] 1 ?_ ?_ ((O0.chg k).chg k6) Bg ?_ ?_ ?_
               · rfl
               · rfl
               · rfl
               · rfl
               · simp
               · have := HCz.out; have := HC30.out; have := k.size; have := k6.size; omega
               intro v7 w7 O7 k7))
          have C7 : Chg w w7 [] := ((C.trans1 k).trans1 k6).trans k7 (fun z hz => Or.inr (HOB4.out z hz))
          go_ret3
          refine ⟨_, rfl, Or.inr ⟨_, _, u, rfl, ?_, fun j hj => HU.out j (by have := HWW.out; omega), HSo.out⟩, C7⟩
          have e1 : liL (lcE u (T + e) e) (e + 1) = [] ++ [1] := by rw [HE0.out]; simp [liL, lcE, List.range_succ]
          rw [e1]; exact O7
        · have he0 : ¬ e = 0 := he
          have hei : ¬ (e : Int) = 0 := by omega
          have HE : Hid (0 < e) := by show 0 < e; omega
          clear he
          have O0 : OwnR w3 w.heap.size 24 32 (.slice none 0 0) 0 (fun j => feL (u (te + j))) := OwnR.nil _ _ _ _ _
          have R0 : Rl w3 32 (.slice (some ⟨obk, te * 32, none⟩) e e) e (fun j => feL (u (te + j))) := ⟨fun _ _ => fe_ok _, Or.inr ⟨obk, te * 32, e, rfl, Nat.le_refl _, by have := HN.out; have := HTE.out; omega, So.lt, fun j hj => by
            have z := So.range (show te + j < W by have := HTE.out; omega)
            rw [Nat.add_mul] at z
            exact z⟩⟩
          go_wp2_with (refine wpList_append_r rfl (.tmp 90) (.tmp 95) 22 rfl 24 ie (.agg z32) 32 32 Tryz.underlying22 hie hiz his (by assumption) rfl (by omega) w.heap.size (.slice none 0 0) (.slice (some ⟨obk, te * 32, none⟩) e e) 0 e _ _ rfl rfl O0 R0 HE.out (by have := HN.out; have := HTE.out; omega) (by have := HN.out; have := HTE.out; omega) HCz.out ?_; intro ga gc w4 O4 k4 _ _)
          --CUT6
          have O5 : Os w4 w.heap.size (.slice (some ⟨ga, 0, none⟩) (0 + e) gc) (liL (lcE u te e) e) := by
            unfold Os
            rw [liL_len]
            have z := O4.congr (G := oS (liL (lcE u te e) e)) (fun j hj => by
              unfold catR oS
              rw [if_neg (by omega), liL_get _ _ _ (by omega)]
              unfold lcE
              rw [if_pos (by omega), Nat.sub_zero])
            rw [Nat.zero_add] at z ⊢
            exact z
          have C4 : Chg w w4 [] := C.trans k4 (fun z hz => by simp [ob, Value.ownBlock] at hz)
          have HC4 : Hid (w.heap.size ≤ w4.heap.size) := C4.size
          clear k4 O4 O0 R0 C
          obtain ⟨v4, hv4⟩ : ∃ v, Value.slice (some ⟨ga, 0, none⟩) (0 + e) gc = v := ⟨_, rfl⟩
          rw [hv4] at O5
          have HOB4 : Hid (∀ z, z ∈ ob v4 → w.heap.size ≤ z) := fun z hz => (ob_own O5 z hz).1
          simp only [Nat.zero_add] at hv4 ⊢
          rw [hv4]
          clear hv4
          refine (FromInt_1 _).mono ?_
          rintro ex w5 ⟨rfl, k⟩
          go_wp2_with (first
            | (with_reducible refine bslice_w ?_ 22 24 (.tmp 98) ?_ (fe 1) ?_ (feC 1) ie (.agg z32) Tryz.underlying22 hie hiz 32 his ?_ ?_ (fill_sc _) ?_
               · rfl
               · rfl
               · rfl
               · omega
               · omega
               intro gz w6 hgz Bg k6)
            | (with_reducible refine append_os ?_ (.tmp 97) (.tmp 99) ?_ w.heap.size v4 gz (liL (lcE u te e) e) 1 ?_ ?_ ((O5.chg k).chg k6) Bg ?_ ?_ ?_
               · rfl
               · rfl
               · rfl
               · rfl
               · rw [liL_len]; have := HN.out; have := HTE.out; omega
               · have := HC4.out; have := k.size; have := k6.size; omega
               intro v7 w7 O7 k7))
          have C7 : Chg w w7 [] := ((C4.trans1 k).trans1 k6).trans k7 (fun z hz => Or.inr (HOB4.out z hz))
          go_ret3
          refine ⟨_, rfl, Or.inr ⟨_, _, u, rfl, ?_, fun j hj => HU.out j (by have := HWW.out; omega), HSo.out⟩, C7⟩
          have e1 : liL (lcE u (T + e) e) (e + 1) = liL (lcE u te e) e ++ [1] := by
            rw [HTE.out.1, liL_s]
            congr 2
            unfold lcE; rw [if_neg (Nat.lt_irrefl _)]
          rw [e1]; exact O7
end Go.Proofs.YtoafcaieifjoiaaGreat
