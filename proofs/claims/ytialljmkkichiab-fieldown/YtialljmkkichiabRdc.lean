/- field.Reduce: the number of any bytes. -/
import Derived.Test.YtialljmkkichiabShift
import Derived.Test.YtialljmkkichiabPower
import Derived.Test.YtialljmkkichiabEq
import Derived.Laws.CopyOwn
set_option linter.unusedVariables false
set_option linter.unusedSimpArgs false
set_option linter.unnecessarySimpa false
namespace Go.Proofs.Ytialljmkkichiab
open Go.RowKit N

/-- Bytes in memory, as many as len, from ⟨g, o⟩ on. -/
structure Bs (w : World) (g o len : Nat) (b : Nat → Nat) : Prop where
  lt : g < w.heap.size
  bd : ∀ i, i < len → b i < 256
  cell : ∀ i, i < len → w.cell? ⟨g, o + i, none⟩ = some (.int .u8 ((b i : Nat) : Int))
theorem Bs.chg {w w' : World} {g o len : Nat} {b : Nat → Nat} {l : List Nat} (h : Bs w g o len b) (hc : Chg w w' l) (hb : ¬ g ∈ l) : Bs w' g o len b := by
  refine ⟨Nat.lt_of_lt_of_le h.lt hc.size, h.bd, fun i hi => ?_⟩
  rw [← h.cell i hi]
  simp only [World.cell?, hc.block g h.lt hb]
theorem Bs.alloc {w : World} {g o len : Nat} {b : Nat → Nat} (h : Bs w g o len b) (x : Obj) : Bs (w.alloc x) g o len b := h.chg ((Chg.refl w []).alloc x) (by simp)

/-! ### Numbers of bytes -/
theorem nb_get (b : Nat → Nat) : ∀ (m k i : Nat), (∀ j, k ≤ j → j < k + m → b j < 256) → nb b k m / 256 ^ i % 256 = if i < m then b (k + i) else 0
  | 0, k, i, _ => by simp [nb]
  | m + 1, k, 0, h => by
    have := h k (Nat.le_refl _) (by omega)
    simp [nb]
    omega
  | m + 1, k, i + 1, h => by
    have h0 := h k (Nat.le_refl _) (by omega)
    have ih := nb_get b m (k + 1) i (fun j h1 h2 => h j (by omega) (by omega))
    unfold nb
    rw [Nat.pow_succ, Nat.mul_comm (256 ^ i), ← Nat.div_div_eq_div_mul, Nat.add_mul_div_left _ _ (by decide), Nat.div_eq_of_lt h0, Nat.zero_add, ih]
    simp only [Nat.add_lt_add_iff_right]
    rw [show k + 1 + i = k + (i + 1) by omega]
theorem nb_lt (b : Nat → Nat) : ∀ (m k : Nat), (∀ j, k ≤ j → j < k + m → b j < 256) → nb b k m < 256 ^ m
  | 0, k, _ => by simp [nb]
  | m + 1, k, h => by
    have h0 := h k (Nat.le_refl _) (by omega)
    have ih := nb_lt b m (k + 1) (fun j h1 h2 => h j (by omega) (by omega))
    unfold nb
    rw [Nat.pow_succ]
    omega
theorem nb_succ (b : Nat → Nat) (k m : Nat) : nb b k (m + 1) = b k + 256 * nb b (k + 1) m := rfl
theorem nb_add (b : Nat → Nat) : ∀ (m k n : Nat), nb b k (m + n) = nb b k m + 256 ^ m * nb b (k + m) n
  | 0, k, n => by simp [nb]
  | m + 1, k, n => by
    rw [show m + 1 + n = (m + n) + 1 by omega]
    rw [nb_succ, nb_succ, nb_add b m (k + 1) n, Nat.pow_succ, show k + 1 + m = k + (m + 1) by omega, Nat.mul_add, ← Nat.mul_assoc, Nat.mul_comm (256 ^ m) 256, Nat.add_assoc]
theorem by8_nat (n i : Nat) : by8 (n : Int) i = ((n / 256 ^ i % 256 : Nat) : Int) := by
  unfold by8
  rw [Int.natCast_emod, Int.natCast_ediv, Int.natCast_pow]
  rfl
/-- The cells of a piece. -/
def pieceL (b : Nat → Nat) (k m : Nat) : List Value := (List.range m).map fun i => .int .u8 ((b (k + i) : Nat) : Int)
theorem z32_list : z32.toList = List.replicate 32 (.int .u8 0) := by kernel_rfl
theorem piece_row (b : Nat → Nat) (k m : Nat) (hm : m ≤ 32) (h : ∀ j, k ≤ j → j < k + m → b j < 256) :
    (z32.toList.take 0 ++ (pieceL b k m ++ z32.toList.drop (0 + (pieceL b k m).length))).toArray = feC ((nb b k m : Nat) : Int) := by
  apply Array.ext_getElem?
  intro i
  have hl : (pieceL b k m).length = m := by simp [pieceL]
  by_cases hi : i < 32
  · rw [feC_get _ i hi, by8_nat, nb_get b m k i h]
    simp only [List.take_zero, List.nil_append, List.getElem?_toArray]
    by_cases him : i < m
    · rw [List.getElem?_append_left (by omega), if_pos him]
      simp [pieceL, him]
    · rw [List.getElem?_append_right (by omega), if_neg him, z32_list, hl]
      rw [List.getElem?_drop, List.getElem?_replicate, if_pos (by omega)]
      rfl
  · rw [Array.getElem?_eq_none (xs := feC _) (by rw [feC_size]; omega), Array.getElem?_eq_none]
    simp [hl, z32_list]
    omega
theorem piece_cell (b : Nat → Nat) (k m j : Nat) (v : Value) (h : (pieceL b k m)[j]? = some v) : j < m ∧ v = .int .u8 ((b (k + j) : Nat) : Int) := by
  unfold pieceL at h
  rw [List.getElem?_map] at h
  by_cases hj : j < m
  · rw [List.getElem?_range hj] at h
    simp at h
    exact ⟨hj, h.symm⟩
  · rw [List.getElem?_eq_none (by simp; omega)] at h
    simp at h
theorem piece_one (b : Nat → Nat) (k m : Nat) : ∀ v ∈ pieceL b k m, v.oneCell' = true := by
  intro v hv
  simp [pieceL] at hv
  obtain ⟨i, _, rfl⟩ := hv
  rfl
/-- One round of the sum. -/
theorem sum_step (b : Nat → Nat) (len e s : Nat) (hs : s ≤ e) (he : e ≤ len) (h : e = len ∨ e - s = 32) :
    (((nb b e (len - e) : Nat) : Int) % P * 38 % P + ((nb b s (e - s) : Nat) : Int) % P) % P = ((nb b s (len - s) : Nat) : Int) % P := by
  have e1 : len - s = (e - s) + (len - e) := by omega
  rw [e1, nb_add, show s + (e - s) = e by omega]
  rcases h with h | h
  · subst h
    rw [Nat.sub_self]
    simp [nb]
  · rw [h]
    rw [Int.natCast_add, Int.natCast_mul]
    have k : (((256 ^ 32 : Nat) : Int)) % P = 38 := by decide +kernel
    generalize ((256 ^ 32 : Nat) : Int) = c at *
    generalize ((nb b e (len - e) : Nat) : Int) = A at *
    generalize ((nb b s 32 : Nat) : Int) = B at *
    have r : (B + c * A) % P = (B % P + (c % P * (A % P)) % P) % P := by rw [Int.add_emod, Int.mul_emod c]
    rw [r, k, Int.mul_comm 38, Int.add_comm (B % P)]

/-- copy, as one step of a region that draws its order: into a row that is known whole. -/
theorem step_copy {P : Program} {ops : Array Oper} {o : Oper} {a : Act} {w : World} {K : Act → World → Prop} {Q : Exit → Act → World → Prop} {E : Prop} (hgd : o.guard = none) (d s : Operand) (dT sT : TypeId)
    (ho : o.op = .call { callee := .builtin .copy, args := #[d, s], argTypes := #[dT, sT] }) (elem : TypeId) (hu : P.underlying dT = some (.slice elem)) (hsz : (P.info? elem).map (·.size) = some 1)
    (g dLen dCap : Nat) (ad : Addr) (sLen sCap : Nat) (hd : a.eval d = .slice (some ⟨g, 0, none⟩) dLen dCap) (hs : a.eval s = .slice (some ad) sLen sCap)
    (cur : Array Value) (t : TypeId) (hg : Blk w g cur t) (cs : List Value) (hn : cs.length = Nat.min sLen dLen)
    (hsrc : ∀ j v, cs[j]? = some v → w.cell? (ad.add j) = some v) (hfit : cs.length ≤ cur.size) (h1 : ∀ v ∈ cs, v.oneCell' = true) (row : Array Value)
    (hrow : (cur.toList.take 0 ++ (cs ++ cur.toList.drop (0 + cs.length))).toArray = row)
    (h : K (a.put o.dst (goInt cs.length)) (w.setRow g row)) :
    if Region.wanted o (yielded ops a.tmps) = true then Oper.wp P o a w K Q else E := by
  have hw : Region.wanted o (yielded ops a.tmps) = true := by simp [Region.wanted, hgd]
  rw [if_pos hw]
  have hrun := run_copy_row (P := P) w dT sT o.type elem g 0 dLen dCap ad sLen sCap cur t cs hu hsz hg hn hsrc (by omega) h1
  rw [List.append_assoc, hrow] at hrun
  unfold Oper.wp
  simp [execOp, ho, resolve, invoke, builtin, hd, hs, hrun, Result.andThen]
  exact h

set_option maxHeartbeats 4000000 in
set_option maxRecDepth 100000 in
theorem Reduce_fe (g o len cap : Nat) (b : Nat → Nat) (hlen : len ≤ cap) (hcap : cap ≤ 9223372036854775807) (w : World) (he : Bs w g o len b) :
    Calls Try.prog 27 #[.slice (some ⟨g, o, none⟩) len cap] w fun e w' => e = .returned (fe (((nb b 0 len : Nat) : Int) % P)) ∧ Chg w w' [] := by
  have hg := he.lt
  go_enter Try.func27, Try.ntmps27
  go_wp2_with fail
  have C0 : Chg w (((w.alloc (.cells z32 23)).alloc (.cells #[.int .u64 0, .int .u64 0, .int .u64 0, .int .u64 0, .int .u64 0] 79)).alloc (.cells #[.int .u64 0, .int .u64 0, .int .u64 0, .int .u64 0, .int .u64 0] 79)) [] := (((Chg.refl w []).alloc _).alloc _).alloc _
  have f1 : Blk (((w.alloc (.cells z32 23)).alloc (.cells #[.int .u64 0, .int .u64 0, .int .u64 0, .int .u64 0, .int .u64 0] 79)).alloc (.cells #[.int .u64 0, .int .u64 0, .int .u64 0, .int .u64 0, .int .u64 0] 79)) w.heap.size z32 23 := ((Blk.new w z32 23).alloc _).alloc _
  have f2 : Nm (((w.alloc (.cells z32 23)).alloc (.cells #[.int .u64 0, .int .u64 0, .int .u64 0, .int .u64 0, .int .u64 0] 79)).alloc (.cells #[.int .u64 0, .int .u64 0, .int .u64 0, .int .u64 0, .int .u64 0] 79)) (w.heap.size + 1) 0 := by have h := (Nm.new (w.alloc (.cells z32 23))).alloc (.cells #[.int .u64 0, .int .u64 0, .int .u64 0, .int .u64 0, .int .u64 0] 79); simpa using h
  have f3 : An (((w.alloc (.cells z32 23)).alloc (.cells #[.int .u64 0, .int .u64 0, .int .u64 0, .int .u64 0, .int .u64 0] 79)).alloc (.cells #[.int .u64 0, .int .u64 0, .int .u64 0, .int .u64 0, .int .u64 0] 79)) (w.heap.size + 1 + 1) := by have h := An.new ((w.alloc (.cells z32 23)).alloc (.cells #[.int .u64 0, .int .u64 0, .int .u64 0, .int .u64 0, .int .u64 0] 79)); simpa using h
  replace he := ((he.alloc (.cells z32 23)).alloc (.cells #[.int .u64 0, .int .u64 0, .int .u64 0, .int .u64 0, .int .u64 0] 79)).alloc (.cells #[.int .u64 0, .int .u64 0, .int .u64 0, .int .u64 0, .int .u64 0] 79)
  go_loopw [5] (fun t wr => ∃ e : Nat, e ≤ len ∧ (e = len ∨ e % 32 = 0) ∧ t = .int .i64 (e : Int) ∧ Nm wr (w.heap.size + 1) (((nb b e (len - e) : Nat) : Int) % P) ∧ An wr (w.heap.size + 1 + 1) ∧ Bs wr g o len b ∧ Blk wr w.heap.size z32 23 ∧ Chg w wr []) (fun t _ => (intOf t).toNat)
  case atStart => exact ⟨len, Nat.le_refl _, Or.inl rfl, rfl, by rw [Nat.sub_self]; exact f2, f3, he, f1, C0⟩
  case round =>
    obtain ⟨e, hel, hem, rfl, r0, r1, r2, r3, r4⟩ := hrel
    clear f1 f2 f3 he C0
    by_cases he0 : e = 0
    · subst he0
      rw [Nat.sub_zero] at r0
      go_wp2_with fail
      refine (bytes_nm (w.heap.size + 1) _ _ r0).mono ?_
      rintro e v3 ⟨rfl, t0, k3⟩
      have t3 := r3.chg k3 (by simp)
      have t4 := r4.new k3 (by omega)
      go_wp2_with (refine wpList_store_row rfl 23 _ _ rfl w.heap.size _ rfl rfl 23 _ t3 feInfo rfl (feC_one _) ?_)
      exact bodyPost_ret (results_cell_row Try.results27 _ _ w.heap.size 23 (feC (((nb b 0 len : Nat) : Int) % P)) (0, 0) _ rfl (Blk.setRow t3 _) Try.underlying23 rfl feInfo) rfl ⟨rfl, t4.setRowNew (Nat.le_refl _) _⟩
    · have hpos : (0 : Int) < (e : Int) := by omega
      obtain ⟨q, hq⟩ : ∃ q, q = (e - 1) / 32 := ⟨_, rfl⟩
      have hdiv : ((e : Int) - 1) / 32 = (q : Int) := by omega
      have hs1 : q * 32 < e := by omega
      have hs2 : e ≤ q * 32 + 32 := by omega
      go_wp2_with fail
      obtain ⟨s, hs⟩ : ∃ s, s = q * 32 := ⟨_, rfl⟩
      have h6 : ((e - 1 : Nat) : Int) / 32 * 32 = ((s : Nat) : Int) := by omega
      rw [h6]
      have hse : s ≤ e := by omega
      have hec : e ≤ cap := by omega
      have hm : Hid (e - s ≤ 32 ∧ 0 < e - s ∧ s % 32 = 0 ∧ (e = len ∨ e - s = 32)) := ⟨by omega, by omega, by omega, by omega⟩
      clear hq hdiv hs1 hs2 hs h6 hem q he0
      refine wp_region_held_drew (S := fun _ => True) (by kernel_rfl) trivial (fun hHeld => ?_)
      refine take_val (v := .slice (some ⟨g, o, none⟩) len cap) 1 (some 17) rfl (by kernel_rfl) (by kernel_rfl) (by kernel_rfl) (fun _ _ _ h => h) rfl rfl (fun w hSw => ?_) hHeld ?_
      · (go_simp; try with_reducible rfl)
      try simp only [Act.put, List.setIfInBounds_toArray, List.set_cons_zero, List.set_cons_succ]
      refine take_val (v := .int .i64 (s : Int)) 2 (some 18) rfl (by kernel_rfl) (by kernel_rfl) (by kernel_rfl) (fun _ _ _ h => h) rfl rfl (fun w hSw => ?_) hHeld ?_
      · (go_simp; try with_reducible rfl)
      try simp only [Act.put, List.setIfInBounds_toArray, List.set_cons_zero, List.set_cons_succ]
      refine take_val (v := .int .i64 (e : Int)) 3 (some 19) rfl (by kernel_rfl) (by kernel_rfl) (by kernel_rfl) (fun _ _ _ h => h) rfl rfl (fun w hSw => ?_) hHeld ?_
      · (go_simp; try with_reducible rfl)
      try simp only [Act.put, List.setIfInBounds_toArray, List.set_cons_zero, List.set_cons_succ]
      refine take_val (v := .slice (some ⟨wr.heap.size, 0, none⟩) 32 32) 0 (some 16) rfl (by kernel_rfl) (by kernel_rfl) (by kernel_rfl) (fun _ _ _ h => h) rfl rfl (fun w hSw => ?_) hHeld ?_
      · (go_simp; try with_reducible rfl)
      try simp only [Act.put, List.setIfInBounds_toArray, List.set_cons_zero, List.set_cons_succ]
      have hcs : ¬ cap = s := by have := hm.2.1; omega
      refine take_val (v := .slice (some ⟨g, o + s, none⟩) (e - s) (cap - s)) 4 (some 20) rfl (by kernel_rfl) (by kernel_rfl) (by kernel_rfl) (fun _ _ _ h => h) rfl rfl (fun w hSw => ?_) hHeld ?_
      · (go_simp)
      try simp only [Act.put, List.setIfInBounds_toArray, List.set_cons_zero, List.set_cons_succ]
      refine wpAnyH_ready (rs := [5]) (by kernel_rfl) (by simp) ?_
      refine AllReadyH.cons (o := _) rfl (fun K hK => ?_) AllReadyH.nil
      have hm' : e - s ≤ 32 ∧ 0 < e - s ∧ s % 32 = 0 ∧ (e = len ∨ e - s = 32) := hm
      have hbd : ∀ j, s ≤ j → j < s + (e - s) → b j < 256 := fun j _ h2 => r2.bd j (by omega)
      have b0 : Blk ((wr.alloc (.cells z32 23)).drew) wr.heap.size z32 23 := (Blk.new wr z32 23).drew
      have k0 : Chg wr ((wr.alloc (.cells z32 23)).drew) [] := ((Chg.refl wr []).alloc _).drew
      have s0 : Bs ((wr.alloc (.cells z32 23)).drew) g o len b := r2.chg k0 (by simp)
      have hln : (pieceL b s (e - s)).length = e - s := by simp [pieceL]
      have hmin : Nat.min (e - s) 32 = e - s := Nat.min_eq_left hm'.1
      refine step_copy rfl (.tmp 16) (.tmp 20) _ _ rfl 5 (by kernel_rfl) (by kernel_rfl) wr.heap.size 32 32 ⟨g, o + s, none⟩ (e - s) (cap - s) rfl rfl z32 23 b0 (pieceL b s (e - s)) (by rw [hln, hmin]) ?_ (by rw [hln]; exact hm'.1) (piece_one _ _ _) (feC ((nb b s (e - s) : Nat) : Int)) (piece_row _ _ _ hm'.1 hbd) ?_
      · intro j v hv
        obtain ⟨hj, rfl⟩ := piece_cell _ _ _ _ _ hv
        have := s0.cell (s + j) (by omega)
        have ha : (Addr.add ⟨g, o + s, none⟩ j) = ⟨g, o + (s + j), none⟩ := by
          by_cases h0 : j = 0
          · subst h0; simp [Addr.add]
          · simp [Addr.add, h0, Nat.add_assoc]
        rw [ha]
        exact this
      · refine hK.out _ _ trivial (fun hHeld => ?_)
        clear hK K
        try simp only [Act.put, List.setIfInBounds_toArray, List.set_cons_zero, List.set_cons_succ]
        refine wpAnyH_done (by kernel_rfl) ?_ _
        have b1 : Blk (((wr.alloc (.cells z32 23)).drew).setRow wr.heap.size (feC ((nb b s (e - s) : Nat) : Int))) wr.heap.size (feC ((nb b s (e - s) : Nat) : Int)) 23 := Blk.setRow b0 _
        have k1 : Chg wr (((wr.alloc (.cells z32 23)).drew).setRow wr.heap.size (feC ((nb b s (e - s) : Nat) : Int))) [] := k0.setRowNew (Nat.le_refl _) _
        clear b0 k0 s0
        have hnl : nb b s (e - s) < 256 ^ 32 := Nat.lt_of_lt_of_le (nb_lt b (e - s) s hbd) (Nat.pow_le_pow_right (by decide) hm'.1)
        have hn1 : ((nb b s (e - s) : Nat) : Int) < 115792089237316195423570985008687907853269984665640564039457584007913129639936 := by omega
        have hn0 : (0 : Int) ≤ ((nb b s (e - s) : Nat) : Int) := by omega
        have hsz := r4.size
        have l0 := r0.lt; have l1 := r1.lt; have l2 := r2.lt; have l3 := r3.lt
        clear hm hHeld
        generalize hN : ((nb b s (e - s) : Nat) : Int) = N at *
        go_wp2_with fail
        refine (load_nm (w.heap.size + 1 + 1) wr.heap.size N _ _ hn0 hn1 (r1.chg k1 (by simp)) b1).mono ?_
        rintro e1 v1 ⟨rfl, t1, k2⟩
        have q0 := (r0.chg k1 (by simp)).chg k2 (by rw [List.mem_singleton]; omega)
        have q4 := (r4.trans1 k1).new k2 (by omega)
        have q2 := (r2.chg k1 (by simp)).chg k2 (by rw [List.mem_singleton]; omega)
        have q3 := (r3.chg k1 (by simp)).chg k2 (by rw [List.mem_singleton]; omega)
        clear b1 k1 k2 r0 r1 r2 r3 r4
        go_wp2_with fail
        refine (shift_nm (w.heap.size + 1) _ _ q0).mono ?_
        rintro e2 v2 ⟨rfl, p0, k3⟩
        have p1 := t1.chg k3 (by rw [List.mem_singleton]; omega)
        have p2 := q2.chg k3 (by rw [List.mem_singleton]; omega)
        have p3 := q3.chg k3 (by rw [List.mem_singleton]; omega)
        have p4 := q4.new k3 (by omega)
        clear q0 q2 q3 q4 t1 k3
        go_wp2_with fail
        refine (add_nm (w.heap.size + 1) (w.heap.size + 1) (w.heap.size + 1 + 1) _ _ _ p0.an p0 p1).mono ?_
        rintro e3 v3 ⟨rfl, o0, k4⟩
        have o1 := p1.chg k4 (by rw [List.mem_singleton]; omega)
        have o2 := p2.chg k4 (by rw [List.mem_singleton]; omega)
        have o3 := p3.chg k4 (by rw [List.mem_singleton]; omega)
        have o4 := p4.new k4 (by omega)
        clear p0 p1 p2 p3 p4 k4
        rw [← hN, sum_step b len e s hse hel hm'.2.2.2] at o0
        clear hN hn0 hn1 hnl
        go_wp2_with fail
        go_roundw
        case rel => exact ⟨s, by omega, Or.inr hm'.2.2.1, rfl, o0, o1.an, o2, o3, o4⟩
        case measure => simp [intOf]; omega
end Go.Proofs.Ytialljmkkichiab
