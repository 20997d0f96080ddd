/- Book.apartBytes over lists of bytes that lie apart, with room or without. -/
import Derived.Test.YtnopkojpgemldaaBkBy
import Derived.Test.YtnopkojpgemldaaMgB
import Derived.ArgAppend
set_option linter.unusedVariables false
set_option linter.unusedSimpArgs false
set_option linter.unnecessarySimpa false
namespace Go.Proofs.Ytnopkojpgemldaa
open Go.RowKit

/-- The mark of list i at place k. -/
def mb (i k : Nat) : Nat := (i * 31 + k * 7 + 5) % 256
theorem mb_lt (i k : Nat) : mb i k < 256 := Nat.mod_lt _ (by decide)
set_option maxHeartbeats 4000000 in
set_option maxRecDepth 100000 in
theorem markBytes_g (i k : Nat) (hi : i ≤ 1000) (hk : k ≤ 140737488355331) (w : World) : Calls Try.prog 72 #[.int .i64 (i : Int), .int .i64 (k : Int)] w fun x w' => x = .returned (.int .u8 ((mb i k : Nat) : Int)) ∧ Chg w w' [] := by
  have e0 : IntKind.i64.wrap ((i : Int) * 31) = (i : Int) * 31 := by rw [IntKind.wrap_i64]; omega
  have e1 : IntKind.i64.wrap ((k : Int) * 7) = (k : Int) * 7 := by rw [IntKind.wrap_i64]; omega
  have e2 : IntKind.i64.wrap ((i : Int) * 31 + (k : Int) * 7) = (i : Int) * 31 + (k : Int) * 7 := by rw [IntKind.wrap_i64]; omega
  have e3 : IntKind.i64.wrap ((i : Int) * 31 + (k : Int) * 7 + 5) = (i : Int) * 31 + (k : Int) * 7 + 5 := by rw [IntKind.wrap_i64]; omega
  have e4 : IntKind.u8.wrap ((i : Int) * 31 + (k : Int) * 7 + 5) = ((mb i k : Nat) : Int) := by rw [IntKind.wrap_u8']; unfold mb; omega
  clear hi hk
  go_enter Try.func72, Try.ntmps72
  go_wp2
  go_ret
  exact ⟨by rw [← e4]; congr 2, Chg.refl _ _⟩
/-- n bytes at the head of block y, which has c. -/
def BL (w : World) (y n c : Nat) (f : Nat → Nat) : Prop := ∃ C, Blk w y C 5 ∧ C.size = c ∧ n ≤ c ∧ c ≤ 9223372036854775807 ∧ ∀ r, r < n → C[r]? = some (.int .u8 ((f r : Nat) : Int))
theorem BL.chg {w w' : World} {y n c : Nat} {f : Nat → Nat} {l : List Nat} (h : BL w y n c f) (hc : Chg w w' l) (hl : ¬ y ∈ l) : BL w' y n c f := by
  obtain ⟨C, h1, h2⟩ := h
  exact ⟨C, h1.chg hc hl, h2⟩
theorem BL.drew {w : World} {y n c : Nat} {f : Nat → Nat} (h : BL w y n c f) : BL w.drew y n c f := by
  obtain ⟨C, h1, h2⟩ := h
  exact ⟨C, h1.drew, h2⟩
theorem BL.cong {w : World} {y n c : Nat} {f g : Nat → Nat} (h : BL w y n c f) (e : ∀ r, r < n → f r = g r) : BL w y n c g := by
  obtain ⟨C, h1, h2, h3, h4, h5⟩ := h
  exact ⟨C, h1, h2, h3, h4, fun r hr => by rw [h5 r hr, e r hr]⟩
theorem BL.cell {w : World} {y n c : Nat} {f : Nat → Nat} (h : BL w y n c f) {k : Nat} (hk : k < n) : w.cell? ⟨y, k, none⟩ = some (.int .u8 ((f k : Nat) : Int)) := by
  obtain ⟨C, h1, h2, h3, h4, h5⟩ := h
  rw [h1.cell, h5 k hk]
theorem BL.frozen {w : World} {y n c : Nat} {f : Nat → Nat} (h : BL w y n c f) (k : Nat) : w.frozen? ⟨y, k, none⟩ = false := by
  obtain ⟨C, h1, _⟩ := h
  exact h1.frozen k
theorem BL.lt {w : World} {y n c : Nat} {f : Nat → Nat} (h : BL w y n c f) : y < w.heap.size := by
  obtain ⟨C, h1, _⟩ := h
  exact h1.lt
theorem BL.set {w : World} {y n c : Nat} {f : Nat → Nat} (h : BL w y n c f) {k : Nat} (hk : k < n) (v : Nat) : BL (w.setCell ⟨y, k, none⟩ (.int .u8 (v : Int))) y n c (fun r => if r = k then v else f r) := by
  obtain ⟨C, h1, h2, h3, h4, h5⟩ := h
  refine ⟨C.setIfInBounds k (.int .u8 (v : Int)), h1.setCell k _, by rw [Array.size_setIfInBounds]; exact h2, h3, h4, fun r hr => ?_⟩
  show _ = some (Value.int .u8 (((if r = k then v else f r : Nat)) : Int))
  by_cases hrk : r = k
  · subst hrk
    rw [Array.getElem?_setIfInBounds_self_of_lt (by omega), if_pos rfl]
  · rw [Array.getElem?_setIfInBounds_ne (fun e => hrk e.symm), if_neg hrk]
    exact h5 r hr
/-- The list in block y has grown by k: in its room, or in a block at base or behind. -/
def GB (w : World) (base y n c k : Nat) (v : Value) (f : Nat → Nat) : Prop :=
  (v = .slice (some ⟨y, 0, none⟩) (n + k) c ∧ BL w y (n + k) c f) ∨ (Own w base v (n + k) f ∧ BL w y n c f)
theorem BL.sub {w : World} {y n m c : Nat} {f : Nat → Nat} (h : BL w y n c f) (hm : m ≤ n) : BL w y m c f := by
  obtain ⟨C, h1, h2, h3, h4, h5⟩ := h
  exact ⟨C, h1, h2, by omega, h4, fun r hr => h5 r (by omega)⟩
theorem GB.chg {w w' : World} {base y n c k : Nat} {v : Value} {f : Nat → Nat} {l : List Nat} (h : GB w base y n c k v f) (hc : Chg w w' l) (hl : ¬ y ∈ l) (hl2 : ∀ z, z ∈ l → z < base ∨ w.heap.size ≤ z) : GB w' base y n c k v f := by
  rcases h with ⟨h1, h2⟩ | ⟨h1, h2⟩
  · exact Or.inl ⟨h1, h2.chg hc hl⟩
  · exact Or.inr ⟨h1.chg hc (fun z hz hm => by have := h1.ob_ge z hz; rcases hl2 z hm with q | q <;> omega), h2.chg hc hl⟩
theorem GB.form {w : World} {base y n c k : Nat} {v : Value} {f : Nat → Nat} (h : GB w base y n c k v f) : ∃ p cap, v = .slice p (n + k) cap := by
  rcases h with ⟨h1, _⟩ | ⟨h1, _⟩
  · exact ⟨_, _, h1⟩
  · exact own_len1 h1
theorem cat_selfB (f : Nat → Nat) (n : Nat) (i : Nat) (hi : i < n + 1) : cat f n (fun _ => f n) i = f i := by
  unfold cat
  by_cases h : i < n
  · rw [if_pos h]
  · rw [if_neg h]
    have : i = n := by omega
    rw [this]
theorem append_gb {w : World} {ops : Array Oper} {rest : List Oper} {o : Oper} {a : Act} {Q : Exit → Act → World → Prop} (hgd : o.guard = none) (so xo : Operand)
    (ho : o.op = .call { callee := .builtin .append, args := #[so, xo], argTypes := #[26, 26] }) (base y n c k gx : Nat) (f : Nat → Nat) (hf : ∀ r, f r < 256) (v : Value) (hs : a.eval so = v) (hx : a.eval xo = .slice (some ⟨gx, 0, none⟩) 1 1)
    (hg : GB w base y n c k v f) (hX : Blk w gx #[.int .u8 ((f (n + k) : Nat) : Int)] 5) (hn : 0 < n) (hnm : n + k + 1 ≤ 140737488355328) (hbase : base ≤ w.heap.size) (hyb : y < base)
    (h : ∀ v' w' l, GB w' base y n c (k + 1) v' f → Chg w w' l → (∀ z, z ∈ l → z = y ∨ base ≤ z) → wpList Try.prog ops Q rest (a.put o.dst v') w') : wpList Try.prog ops Q (o :: rest) a w := by
  obtain ⟨i, hi, hz, h1, h2⟩ := u8Row
  have hnews : ∀ j u, ([Value.int .u8 ((f (n + k) : Nat) : Int)] : List Value)[j]? = some u → w.cell? ((⟨gx, 0, none⟩ : Addr).add j) = some u := by
    intro j u hj
    refine add_cell ?_
    rw [Nat.zero_add, hX.cell]
    simpa using hj
  rcases hg with ⟨rfl, hb⟩ | ⟨hown, hb⟩
  · obtain ⟨C, b1, b2, b3, b4, b5⟩ := hb
    by_cases hr : n + k < c
    · refine wpList_plain hgd fun K hK => ?_
      have hrun := run_append_room_cells (P := Try.prog) (w := w) 26 o.type 5 i Try.underlying26 hi y 0 (n + k) c ⟨gx, 0, none⟩ 1 1 [.int .u8 ((f (n + k) : Nat) : Int)] (by rw [h1]; rfl) hnews (by simp [Value.oneCell']) (by omega)
        (by intro j hj; obtain rfl : j = 0 := by simpa using hj
            rw [h1, Nat.zero_add, Nat.mul_one, Nat.add_zero, b1.cell, Array.getElem?_eq_getElem (by omega)]; rfl)
        (by intro j hj; exact b1.frozen _)
      unfold Oper.wp execOp
      simp only [ho, resolve, invoke, builtin, Sem.run_bind, Sem.run_pure, Result.andThen_ok, List.map_toArray, List.map_cons, List.map_nil, hs, hx, hrun]
      rw [h1, Nat.zero_add, Nat.mul_one]
      refine hK _ _ (h _ _ [y] (Or.inl ⟨rfl, setL C (n + k) [.int .u8 ((f (n + k) : Nat) : Int)], b1.setCells (n + k) _, by rw [setL_size]; exact b2, by omega, b4, fun r hr2 => ?_⟩) ((Chg.refl w [y]).setCellsIn (by simp) (n + k) _) (fun z hz => Or.inl (by simpa using hz)))
      rw [setL_get]
      by_cases hrn : r = n + k
      · subst hrn
        rw [if_pos ⟨by omega, by simp, by omega⟩]
        simp
      · rw [if_neg (by simp; omega)]
        exact b5 r (by omega)
    · have hc : n + k = c := by omega
      have holds : ∀ b, (some (⟨y, 0, none⟩ : Addr)) = some b → ∀ j u, (yL (n + k) f)[j]? = some u → w.cell? (b.add j) = some u := by
        intro b hb j u hj
        cases hb
        obtain ⟨hj1, rfl⟩ := yL_some _ _ _ _ hj
        refine add_cell ?_
        rw [Nat.zero_add, b1.cell, b5 j hj1]
      refine wpList_append_grows w hgd so xo 26 ho 5 i (.int .u8 0) 1 1 Try.underlying26 hi hz h1 h2 rfl (by decide) (some ⟨y, 0, none⟩) (n + k) c (yL (n + k) f) hs (fun hh => by cases hh) (by rw [yL_len, Nat.mul_one]) holds ⟨gx, 0, none⟩ 1 1 [.int .u8 ((f (n + k) : Nat) : Int)] hx rfl hnews (by simp [Value.oneCell']) (by omega) (by simp only [maxLen]; omega) (by omega) ?_
      intro v' w' q1 q2
      have q3 : Chg w w' [] := Chg.grown (v := .slice none 0 0) q2
      have e : yL (n + k) f ++ [.int .u8 ((f (n + k) : Nat) : Int)] = yL (n + k + 1) f := by
        have e1 : [Value.int .u8 ((f (n + k) : Nat) : Int)] = yL 1 (fun _ => f (n + k)) := rfl
        rw [e1, yL_cat]
        unfold yL
        exact List.map_congr_left fun i hi => by rw [cat_selfB f (n + k) i (by simpa using hi)]
      rw [e] at q1
      exact h v' w' [] (Or.inr ⟨⟨ownsRow_base q1 hbase, fun r _ => hf r⟩, BL.chg ⟨C, b1, b2, by omega, b4, fun r hr => b5 r (by omega)⟩ q3 (by simp)⟩) q3 (fun z hz => by simp at hz)
  · have hsl : Sl w (.slice (some ⟨gx, 0, none⟩) 1 1) 1 (fun _ => f (n + k)) := by
      refine Or.inr ⟨gx, 0, 1, rfl, Nat.le_refl _, by omega, hX.lt, fun _ _ => hf _, fun i hi => ?_⟩
      obtain rfl : i = 0 := by omega
      rw [Nat.zero_add, hX.cell]
      rfl
    refine append_y hgd so xo ho base v (.slice (some ⟨gx, 0, none⟩) 1 1) (n + k) 1 f (fun _ => f (n + k)) hs hx hown hsl (by omega) hbase ?_
    intro v' w' q1 q2
    exact h v' w' (ob v) (Or.inr ⟨q1.cong (fun i hi => cat_selfB f (n + k) i hi), hb.chg q2 (fun hm => by have := hown.ob_ge y hm; omega)⟩) q2 (fun z hz => Or.inr (hown.ob_ge z hz).1)
def nA (F : Nat → Nat → Nat) (i j : Nat) : Nat → Nat := fun r => if j < i then mb j r else F j r
def nB (F : Nat → Nat → Nat) (i k : Nat) : Nat → Nat := fun r => if r < k then mb i r else F i r
theorem nA_0 (F : Nat → Nat → Nat) (j : Nat) : nA F 0 j = F j := by funext r; unfold nA; rw [if_neg (by omega)]
theorem nA_all (F : Nat → Nat → Nat) (K j : Nat) (h : j < K) : nA F K j = mb j := by funext r; unfold nA; rw [if_pos h]
theorem nA_self (F : Nat → Nat → Nat) (i : Nat) : nA F i i = F i := by funext r; unfold nA; rw [if_neg (by omega)]
theorem nA_step (F : Nat → Nat → Nat) (i j : Nat) (h : ¬ j = i) : nA F (i + 1) j = nA F i j := by
  funext r
  unfold nA
  by_cases h1 : j < i
  · rw [if_pos h1, if_pos (by omega)]
  · rw [if_neg h1, if_neg (by omega)]
theorem nB_0 (F : Nat → Nat → Nat) (i : Nat) : nB F i 0 = F i := by funext r; unfold nB; rw [if_neg (by omega)]
theorem nB_up (F : Nat → Nat → Nat) (i k : Nat) : (fun r => if r = k then mb i k else nB F i k r) = nB F i (k + 1) := by
  funext r
  unfold nB
  by_cases h : r = k
  · subst h; rw [if_pos rfl, if_pos (by omega)]
  · rw [if_neg h]
    by_cases h1 : r < k
    · rw [if_pos h1, if_pos (by omega)]
    · rw [if_neg h1, if_neg (by omega)]
theorem nB_end (F : Nat → Nat → Nat) (i n : Nat) : ∀ r, r < n → nB F i n r = nA F (i + 1) i r := fun r hr => by unfold nB nA; rw [if_pos hr, if_pos (by omega)]
def os (o : Nat → Nat) (K : Nat) : List Nat := (List.range K).map o
theorem mem_os {o : Nat → Nat} {K x : Nat} (h : x ∈ os o K) : ∃ j, j < K ∧ o j = x := by simpa [os] using h
theorem os_mem (o : Nat → Nat) {K j : Nat} (h : j < K) : o j ∈ os o K := by simp [os]; exact ⟨j, h, rfl⟩
theorem cell_l {w w' : World} {g k : Nat} {v : Value} {l : List Nat} (h : w.cell? ⟨g, k, none⟩ = some v) (hc : Chg w w' l) (hn : ¬ g ∈ l) : w'.cell? ⟨g, k, none⟩ = some v := by
  have hl : g < w.heap.size := by
    by_cases hl : g < w.heap.size
    · exact hl
    · simp [World.cell?, Array.getElem?_eq_none (Nat.le_of_not_lt hl)] at h
  rw [← h]
  simp only [World.cell?, hc.block g hl hn]
/-- Where a grown list's bytes are read, and the list's own. -/
theorem GB.read {w : World} {base y n c k : Nat} {v : Value} {f : Nat → Nat} (h : GB w base y n c k v f) (hn : 0 < n) : ∃ g cap, v = .slice (some ⟨g, 0, none⟩) (n + k) cap ∧ (n + k) ≤ cap ∧ (∀ r, r < n + k → w.cell? ⟨g, r, none⟩ = some (.int .u8 ((f r : Nat) : Int))) ∧ (∀ r, r < n → w.cell? ⟨y, r, none⟩ = some (.int .u8 ((f r : Nat) : Int))) := by
  rcases h with ⟨rfl, h2⟩ | ⟨h1, h2⟩
  · refine ⟨y, c, rfl, ?_, fun r hr => h2.cell hr, fun r hr => h2.cell (by omega)⟩
    obtain ⟨_, _, _, q, _⟩ := h2
    exact q
  · rcases h1.1.2 with ⟨_, h0⟩ | ⟨g, cap, cur, rfl, _, hg, h3, _, h5, h6⟩
    · omega
    · refine ⟨g, cap, rfl, h3, fun r hr => ?_, fun r hr => h2.cell hr⟩
      have b : Blk w g cur 5 := hg
      rw [b.cell]
      have q := congrArg (fun l => l[r]?) h6
      simp only [yL_get _ _ _ hr] at q
      rw [List.getElem?_take] at q
      split at q
      · simpa using q
      · cases q
set_option maxHeartbeats 16000000 in
set_option maxRecDepth 100000 in
theorem apartBytes_s (gb lg lc K : Nat) (B : Nat → Value) (T : TypeId) (o N c : Nat → Nat) (F : Nat → Nat → Nat) (hK0 : K ≤ 1000) (hN : ∀ j, j < K → 0 < N j ∧ N j ≤ 140737488355280) (hB : B 0 = .slice (some ⟨lg, 0, none⟩) K lc) (hlc : K ≤ lc) (w : World) (hg : Blk w gb (bkC B) T)
    (hc : ∀ j, j < K → w.cell? ⟨lg, j, none⟩ = some (.slice (some ⟨o j, 0, none⟩) (N j) (c j))) (hlg : lg < w.heap.size) (hlo : ∀ j, j < K → ¬ lg = o j) (hAB : ∀ j, j < K → BL w (o j) (N j) (c j) (F j)) (hd : ∀ i j, i < K → j < K → ¬ i = j → ¬ o i = o j) :
    Calls Try.prog 39 #[.pointer (some ⟨gb, 0, none⟩)] w fun e w' => e = .returned (.bool true) ∧ Chg w w' (os o K) := by
  have c0 := (hg.cell 0).trans (bkC_get B 0 (by decide))
  rw [hB] at c0
  have HK : Hid (K ≤ 1000) := hK0
  have HN : Hid (∀ j, j < K → 0 < N j ∧ N j ≤ 140737488355280) := hN
  have HAB : Hid (∀ j, j < K → BL w (o j) (N j) (c j) (F j)) := hAB
  have HD : Hid (∀ i j, i < K → j < K → ¬ i = j → ¬ o i = o j) := hd
  have HLO : Hid (¬ lg ∈ os o K) := fun hm => by obtain ⟨j, hj, he⟩ := mem_os hm; exact hlo j hj he.symm
  have HC : Hid (∀ w', Chg w w' (os o K) → ∀ j, j < K → w'.cell? ⟨lg, j, none⟩ = some (.slice (some ⟨o j, 0, none⟩) (N j) (c j))) := fun w' h j hj => cell_l (hc j hj) h HLO.out
  have HLL : Hid (K ≤ lc) := hlc
  clear hB hK0 hN hg hc hlg hlo hAB hd hlc
  go_enter Try.func39, Try.ntmps39
  go_wp2_with fail
  go_loopw [4] (fun t wr => ∃ i : Nat, i ≤ K ∧ t = .int .i64 (i : Int) ∧ (∀ j, j < K → BL wr (o j) (N j) (c j) (nA F i j)) ∧ Chg w wr (os o K)) (fun t _ => ((K : Int) - intOf t).toNat)
  case atStart => exact ⟨0, Nat.zero_le _, rfl, fun j hj => by rw [nA_0]; exact HAB.out j hj, Chg.refl _ _⟩
  case round =>
    clear c0
    obtain ⟨i, hi, rfl, AB, C⟩ := hrel
    obtain ⟨wi, hwi⟩ : ∃ x, x = wr := ⟨_, rfl⟩
    subst hwi
    by_cases h8 : i = K
    · subst h8
      have hI : ¬ (i : Int) < (i : Int) := by omega
      have HA : Hid (∀ j, j < i → BL wi (o j) (N j) (c j) (mb j)) := fun j hj => by have q := AB j hj; rw [nA_all F i j hj] at q; exact q
      clear AB hi
      go_wp2_with fail
      have HC2 : Hid (∀ w', Chg wi w' (os o i) → ∀ j, j < i → w'.cell? ⟨lg, j, none⟩ = some (.slice (some ⟨o j, 0, none⟩) (N j) (c j))) := fun w' h j hj => HC.out w' (C.trans1 h) j hj
      have HCC : Hid (∀ w', Chg wi w' (os o i) → Chg w w' (os o i)) := fun w' h => C.trans1 h
      have HOW : Hid (∀ j, j < i → o j < wi.heap.size) := fun j hj => (HA.out j hj).lt
      clear C HC HAB HLO
      go_loopw [6, 7] (fun tg t wr => ∃ (p : Nat) (us : List Value), p ≤ i ∧ t = .int .i64 (p : Int) ∧ wr.ownsRow wi.heap.size 26 1 tg p us ∧ (∀ j, j < p → ∃ x, us[j]? = some x ∧ GB wr wi.heap.size (o j) (N j) (c j) 40 x (mb j)) ∧ (∀ j, p ≤ j → j < i → BL wr (o j) (N j) (c j) (mb j)) ∧ Chg wi wr (os o i)) (fun _ t _ => ((i : Int) - intOf t).toNat)
      case atStart => exact ⟨0, [], Nat.zero_le _, rfl, World.ownsRow_nil _ _ _ _, fun j hj => absurd hj (by omega), fun j _ hj => HA.out j hj, Chg.refl _ _⟩
      case round =>
        obtain ⟨p, us, hp, rfl, OL, HX, HR, C3⟩ := hrel
        obtain ⟨wb, hwb⟩ : ∃ x, x = wr := ⟨_, rfl⟩
        subst hwb
        by_cases h10 : p = i
        · subst h10
          have hJ : ¬ (p : Int) < (p : Int) := by omega
          clear hp HR
          go_wp2_with fail
          go_loopw [10] (fun t wr => ∃ q : Nat, q ≤ p ∧ t = .int .i64 (q : Int) ∧ Chg wb wr []) (fun t _ => ((p : Int) - intOf t).toNat)
          case atStart => exact ⟨0, Nat.zero_le _, rfl, Chg.refl _ _⟩
          case round =>
            obtain ⟨q, hq, rfl, C5⟩ := hrel
            obtain ⟨wc, hwc⟩ : ∃ x, x = wr := ⟨_, rfl⟩
            subst hwc
            by_cases h12 : q = p
            · subst h12
              have hL : ¬ (q : Int) < (q : Int) := by omega
              have CE := HCC.out _ (C3.trans1 C5.wide)
              go_wp2_with fail
              go_ret
              exact ⟨rfl, CE⟩
            · have hqp : q < p := by omega
              have hL : (q : Int) < (p : Int) := by omega
              have e5 : IntKind.i64.wrap ((q : Int) + 1) = (q : Int) + 1 := by have := HK.out; rw [IntKind.wrap_i64]; omega
              obtain ⟨hn0, hn1⟩ := HN.out q hqp
              obtain ⟨x, hx1, hx2⟩ := HX q hqp
              obtain ⟨gg, gc, hgv, _, _⟩ := OL.form (by omega)
              subst hgv
              have cx := ownsRow_cell OL hx1
              obtain ⟨xg, xc, rfl, hxc, XR, YR⟩ := hx2.read hn0
              have HCY : Hid (∀ W, Chg wb W [] → W.cell? ⟨lg, q, none⟩ = some (.slice (some ⟨o q, 0, none⟩) (N q) (c q))) := fun W h => HC2.out W (C3.trans1 h.wide) q hqp
              obtain ⟨y, hy⟩ : ∃ y, o q = y := ⟨_, rfl⟩
              obtain ⟨n, hn⟩ : ∃ n, N q = n := ⟨_, rfl⟩
              rw [hy, hn] at YR HCY
              rw [hn] at XR hxc cx hn0 hn1
              obtain ⟨nk, hnk⟩ : ∃ m, n + 40 = m := ⟨_, rfl⟩
              rw [hnk] at XR hxc cx
              have HXR : Hid (∀ W, Chg wb W [] → ∀ k, k < nk → W.cell? ⟨xg, k, none⟩ = some (.int .u8 ((mb q k : Nat) : Int))) := fun W hW k hk => cell_l (XR k hk) hW (by simp)
              have HLR : Hid (∀ W, Chg wb W [] → ∀ k, k < n → W.cell? ⟨y, k, none⟩ = some (.int .u8 ((mb q k : Nat) : Int))) := fun W hW k hk => cell_l (YR k hk) hW (by simp)
              have HCX : Hid (∀ W, Chg wb W [] → W.cell? ⟨gg, q, none⟩ = some (.slice (some ⟨xg, 0, none⟩) nk xc)) := fun W h => cell_l cx h (by simp)
              have HQP : Hid (q < p) := hqp
              have HNK : Hid (nk ≤ 140737488355320) := by show nk ≤ _; omega
              have HQM : Hid (q ≤ 1000) := by have := HK.out; show q ≤ _; omega
              have HM5 : Hid ((((p : Int)) - intOf (.int .i64 ((q : Int) + 1))).toNat < (((p : Int)) - intOf (.int .i64 (q : Int))).toNat) := by show ((((p : Int)) - intOf (.int .i64 ((q : Int) + 1))).toNat < (((p : Int)) - intOf (.int .i64 (q : Int))).toNat); simp [intOf] <;> omega
              have c1 := HCX.out wc C5
              clear cx hx1 hx2 HX OL hy hn hnk hn0 hn1 hqp h12 hq XR YR hxc
              go_wp2_with fail
              go_loopw [11] (fun t wr => ∃ k : Nat, k ≤ nk ∧ t = .int .i64 (k : Int) ∧ Chg wb wr []) (fun t _ => ((nk : Int) - intOf t).toNat)
              case atStart => exact ⟨0, Nat.zero_le _, rfl, C5⟩
              case round =>
                clear c1
                obtain ⟨k, hk, rfl, C6⟩ := hrel
                have c1 := HCX.out wr C6
                by_cases h13 : k = nk
                · subst h13
                  have hJ2 : ¬ (k : Int) < (k : Int) := by omega
                  go_wp2_with fail
                  exact ⟨⟨q + 1, HQP.out, rfl, C6⟩, HM5.out⟩
                · have hkn : k < nk := by omega
                  have hJ2 : (k : Int) < (nk : Int) := by omega
                  have e6 : IntKind.i64.wrap ((k : Int) + 1) = (k : Int) + 1 := by have := HNK.out; rw [IntKind.wrap_i64]; omega
                  have HKN : Hid (k < nk) := hkn
                  have HKM : Hid (k ≤ 140737488355331) := by have := HNK.out; show k ≤ _; omega
                  have HM6 : Hid ((((nk : Int)) - intOf (.int .i64 ((k : Int) + 1))).toNat < (((nk : Int)) - intOf (.int .i64 (k : Int))).toNat) := by show ((((nk : Int)) - intOf (.int .i64 ((k : Int) + 1))).toNat < (((nk : Int)) - intOf (.int .i64 (k : Int))).toNat); simp [intOf] <;> omega
                  clear h13 hk hkn
                  go_wp2_with fail
                  refine (markBytes_g q k HQM.out HKM.out _).mono ?_
                  rintro e w5 ⟨rfl, q5⟩
                  have CV := C6.trans1 q5
                  have cx := HXR.out w5 CV k HKN.out
                  have cg := HCX.out w5 CV
                  have cl := HCY.out w5 CV
                  have HLW : Hid (∀ X : Int, ((mb q k : Nat) : Int) = X → k < n → w5.cell? ⟨y, k, none⟩ = some (.int .u8 X)) := fun X hX hk => by rw [← hX]; exact HLR.out w5 CV k hk
                  obtain ⟨X, hX⟩ : ∃ X : Int, ((mb q k : Nat) : Int) = X := ⟨_, rfl⟩
                  rw [hX] at cx ⊢
                  clear c1 q5
                  by_cases hkn : k < n
                  · have hO : (k : Int) < (n : Int) := by omega
                    have cy := HLW.out X hX hkn
                    clear hkn hX
                    go_wp2_with fail
                    exact ⟨⟨k + 1, HKN.out, rfl, CV⟩, HM6.out⟩
                  · have hO : ¬ (k : Int) < (n : Int) := by omega
                    clear hkn hX
                    go_wp2_with fail
                    exact ⟨⟨k + 1, HKN.out, rfl, CV⟩, HM6.out⟩
        · have hpi : p < i := by omega
          have hJ : (p : Int) < (i : Int) := by omega
          have e3 : IntKind.i64.wrap ((p : Int) + 1) = (p : Int) + 1 := by have := HK.out; rw [IntKind.wrap_i64]; omega
          have c1 := HC2.out wb C3 p hpi
          obtain ⟨hn0, hn1⟩ := HN.out p hpi
          have RY := HR p (Nat.le_refl _) hpi
          have HPI : Hid (p < i) := hpi
          have HPM : Hid (p ≤ 1000) := by have := HK.out; show p ≤ _; omega
          have HM3 : Hid ((((i : Int)) - intOf (.int .i64 ((p : Int) + 1))).toNat < (((i : Int)) - intOf (.int .i64 (p : Int))).toNat) := by show ((((i : Int)) - intOf (.int .i64 ((p : Int) + 1))).toNat < (((i : Int)) - intOf (.int .i64 (p : Int))).toNat); simp [intOf] <;> omega
          have HYO : Hid (∀ j, j < i → ¬ j = p → ¬ o j = o p) := fun j hj hne => HD.out j p hj hpi hne
          have HYW : Hid (o p < wi.heap.size) := HOW.out p hpi
          have HYM : Hid (o p ∈ os o i) := os_mem o hpi
          obtain ⟨y, hy⟩ : ∃ y, o p = y := ⟨_, rfl⟩
          obtain ⟨n, hn⟩ : ∃ n, N p = n := ⟨_, rfl⟩
          obtain ⟨d, hd⟩ : ∃ d, c p = d := ⟨_, rfl⟩
          rw [hy, hn, hd] at c1 RY
          rw [hy] at HYO HYW HYM
          rw [hn] at hn0 hn1
          have HNP : Hid (N p = n) := hn
          have HYP : Hid (o p = y) := hy
          have HDP : Hid (c p = d) := hd
          have HN0 : Hid (0 < n) := hn0
          have HN1 : Hid (n ≤ 140737488355280) := hn1
          have HBW : Hid (wi.heap.size ≤ wb.heap.size) := C3.size
          clear hy hn hd hn0 hn1 hpi h10 hp
          go_wp2_with fail
          go_loopw [8, 9] (fun tg t wr => ∃ (k nk : Nat) (pa : Option Addr) (ca : Nat), n + k = nk ∧ k ≤ 40 ∧ t = .int .i64 (k : Int) ∧ tg = .slice pa nk ca ∧ GB wr wb.heap.size y n d k (.slice pa nk ca) (mb p) ∧ Chg wb wr [y]) (fun _ t _ => ((40 : Int) - intOf t).toNat)
          case atStart => exact ⟨0, n, some ⟨y, 0, none⟩, d, rfl, by omega, rfl, rfl, Or.inl ⟨rfl, RY⟩, Chg.refl _ _⟩
          case round =>
            clear RY c1
            obtain ⟨k, nk, pa, ca, hnk, hk, rfl, rfl, G, C4⟩ := hrel
            by_cases h11 : k = 40
            · subst h11
              have hL : ¬ ((40 : Nat) : Int) < 40 := by omega
              obtain ⟨inf, hinf, hz, hs1, hs2⟩ := listRowY
              have A0 := Blk.new wr #[.slice pa nk ca] 26
              have HNW : Hid (∀ j u, ([.slice pa nk ca] : List Value)[j]? = some u → (wr.alloc (.cells #[.slice pa nk ca] 26)).cell? ((⟨wr.heap.size, 0, none⟩ : Addr).add j) = some u) := by
                intro j u hj
                refine add_cell ?_
                rw [Nat.zero_add, A0.cell]
                simpa using hj
              have OL4 := ownsRow_chg OL C4 (fun z hz hm => by have := (OL.lt z (by unfold ob at hz; simpa using hz)).1; simp at hm; have := HYW.out; omega)
              have HLA : Hid ((wr.alloc (.cells #[.slice pa nk ca] 26)).ownsRow wi.heap.size 26 1 u6 p us) := OL4.alloc _
              have H63 : Hid (p + 1 ≤ maxLen) := by have := HK.out; have := HPI.out; show p + 1 ≤ maxLen; simp only [maxLen]; omega
              have HBY : Hid ((p + 1) * 24 ≤ 140737488355328) := by have := HK.out; have := HPI.out; show (p + 1) * 24 ≤ 140737488355328; omega
              have HBA : Hid (wi.heap.size ≤ (wr.alloc (.cells #[.slice pa nk ca] 26)).heap.size) := by have := C4.size; have := HBW.out; show wi.heap.size ≤ _; simp; omega
              have HON : Hid (∀ u ∈ ([.slice pa nk ca] : List Value), u.oneCell' = true) := by show ∀ u ∈ ([.slice pa nk ca] : List Value), u.oneCell' = true; simp [Value.oneCell']
              have wasz : (wr.alloc (.cells #[.slice pa nk ca] 26)).heap.size = wr.heap.size + 1 := by simp
              have KA : Chg wr (wr.alloc (.cells #[.slice pa nk ca] 26)) [] := (Chg.refl wr []).alloc _
              have HUB : Hid (∀ z, z ∈ ob u6 → wi.heap.size ≤ z ∧ ∃ C, Blk wr z C 26) := fun z hz => ⟨(OL.lt z (by unfold ob at hz; simpa using hz)).1, ownsRow_blk OL4 hz⟩
              have HUL : Hid (us.length = p) := by have q := OL.1; show us.length = p; simpa using q
              have GP : GB wr wi.heap.size y n d 40 (.slice pa nk ca) (mb p) := by
                rcases G with h | ⟨h1, h2⟩
                · exact Or.inl h
                · exact Or.inr ⟨h1.base HBW.out, h2⟩
              have HGP : Hid (GB wr wi.heap.size y n d 40 (.slice pa nk ca) (mb p)) := GP
              have HXX : Hid (∀ j, j < p → ∃ x, us[j]? = some x ∧ GB wr wi.heap.size (o j) (N j) (c j) 40 x (mb j)) := fun j hj => by
                obtain ⟨x, hx1, hx2⟩ := HX j hj
                exact ⟨x, hx1, hx2.chg C4 (by simp; exact HYO.out j (by have := HPI.out; omega) (by omega)) (fun z hz => Or.inl (by simp at hz; rw [hz]; exact HYW.out))⟩
              have HRR : Hid (∀ j, p + 1 ≤ j → j < i → BL wr (o j) (N j) (c j) (mb j)) := fun j h1 h2 => (HR j (by omega) h2).chg C4 (by simp; exact HYO.out j h2 (by omega))
              have C5 : Chg wi wr (os o i) := C3.trans C4 (fun z hz => Or.inl (by simp at hz; rw [hz]; exact HYM.out))
              clear G A0 hk GP OL OL4 HX HR C3 C4
              go_wp2_with (with_reducible refine wpList_append_lies _ ?_ (.tmp 62) (.tmp 64) 48 ?_ wi.heap.size 26 inf (.slice none 0 0) 1 24 Try.underlying48 hinf hz hs1 hs2 ?_ ?_ u6 p us ?_ HLA.out ⟨wr.heap.size, 0, none⟩ 1 1 [.slice pa nk ca] ?_ ?_ HNW.out HON.out ?_ H63.out HBY.out HBA.out (wr.heap.size + 1) ?_ ?_
                           · rfl
                           · rfl
                           · rfl
                           · decide
                           · rfl
                           · rfl
                           · rfl
                           · decide
                           · exact wasz
                           intro lg5 lc5 w5 O5 G5 hat hlt
                           replace G5 := Chg.grown G5)
              have K5 : Chg wr w5 (ob u6) := (KA.wide).trans1 G5
              have far : ∀ z C, Blk wr z C 5 → ¬ z ∈ ob u6 := fun z C hz hm => by
                obtain ⟨_, C', hC'⟩ := HUB.out z hm
                exact hz.ne hC' (by decide) rfl
              have gfar : ∀ y n c v f, GB wr wi.heap.size y n c 40 v f → GB w5 wi.heap.size y n c 40 v f := fun y n c v f h => by
                rcases h with ⟨h1, h2⟩ | ⟨h1, h2⟩
                · exact Or.inl ⟨h1, h2.chg K5 (by obtain ⟨C, hC, _⟩ := h2; exact far _ _ hC)⟩
                · exact Or.inr ⟨h1.chg K5 (fun z hz => by obtain ⟨C, hC⟩ := ownsRow_blk h1.1 hz; exact far z C hC), h2.chg K5 (by obtain ⟨C, hC, _⟩ := h2; exact far _ _ hC)⟩
              refine ⟨⟨p + 1, us ++ [.slice pa nk ca], HPI.out, rfl, O5, fun j hj => ?_, fun j h1 h2 => (HRR.out j h1 h2).chg K5 (by obtain ⟨C, hC, _⟩ := HRR.out j h1 h2; exact far _ _ hC), C5.trans K5 (fun z hz => Or.inr (HUB.out z hz).1)⟩, HM3.out⟩
              by_cases hjp : j = p
              · subst hjp
                refine ⟨.slice pa nk ca, by rw [List.getElem?_append_right (by have := HUL.out; omega), HUL.out]; simp, ?_⟩
                rw [HYP.out, HNP.out, HDP.out]
                exact gfar _ _ _ _ _ HGP.out
              · obtain ⟨x, hx1, hx2⟩ := HXX.out j (by omega)
                exact ⟨x, by rw [List.getElem?_append_left (by have := HUL.out; omega)]; exact hx1, gfar _ _ _ _ _ hx2⟩
            · have hk40 : k < 40 := by omega
              have hL : (k : Int) < 40 := by omega
              have e4 : IntKind.i64.wrap ((k : Int) + 1) = (k : Int) + 1 := by rw [IntKind.wrap_i64]; omega
              have HK4 : Hid (k + 1 ≤ 40) := hk40
              have HNK : Hid (n + k = nk) := hnk
              have HNM : Hid (nk ≤ 140737488355331) := by have := HN1.out; show nk ≤ _; omega
              have HM4 : Hid ((((40 : Int)) - intOf (.int .i64 ((k : Int) + 1))).toNat < (((40 : Int)) - intOf (.int .i64 (k : Int))).toNat) := by show ((((40 : Int)) - intOf (.int .i64 ((k : Int) + 1))).toNat < (((40 : Int)) - intOf (.int .i64 (k : Int))).toNat); simp [intOf] <;> omega
              have HBY : Hid (n + k + 1 ≤ 140737488355328) := by have := HN1.out; show n + k + 1 ≤ 140737488355328; omega
              clear hk40 h11 hk hnk
              go_wp2_with fail
              refine (markBytes_g p nk HPM.out HNM.out _).mono ?_
              rintro e w5 ⟨rfl, q⟩
              have K5 : Chg wr (w5.alloc (.cells #[.int .u8 ((mb p nk : Nat) : Int)] 5)) [] := q.alloc _
              have G6 : GB (w5.alloc (.cells #[.int .u8 ((mb p nk : Nat) : Int)] 5)) wb.heap.size y n d k (.slice pa nk ca) (mb p) := G.chg K5 (by simp) (fun z hz => by simp at hz)
              have RX : Blk (w5.alloc (.cells #[.int .u8 ((mb p nk : Nat) : Int)] 5)) w5.heap.size #[.int .u8 ((mb p (n + k) : Nat) : Int)] 5 := by rw [HNK.out]; exact Blk.new w5 _ _
              have C7 : Chg wb (w5.alloc (.cells #[.int .u8 ((mb p nk : Nat) : Int)] 5)) [y] := C4.trans1 K5.wide
              have HBS : Hid (wb.heap.size ≤ (w5.alloc (.cells #[.int .u8 ((mb p nk : Nat) : Int)] 5)).heap.size) := C7.size
              have HYB : Hid (y < wb.heap.size) := Nat.lt_of_lt_of_le HYW.out HBW.out
              clear G q
              go_wp2_with (with_reducible refine append_gb ?_ (.tmp 55) (.tmp 60) ?_ wb.heap.size y n d k w5.heap.size (mb p) (mb_lt p) (.slice pa nk ca) ?_ ?_ G6 RX HN0.out HBY.out HBS.out HYB.out ?_
                           · rfl
                           · rfl
                           · rfl
                           · rfl
                           intro v6 w6 l6 O6 C6 hl6)
              obtain ⟨pa6, ca6, rfl⟩ := O6.form
              exact ⟨⟨k + 1, n + (k + 1), pa6, ca6, rfl, HK4.out, rfl, rfl, O6, C7.trans C6 (fun z hz => by rcases hl6 z hz with h | h; exact Or.inl (by simp [h]); exact Or.inr h)⟩, HM4.out⟩
    · have hiK : i < K := by omega
      have hI : (i : Int) < (K : Int) := by omega
      have e1 : IntKind.i64.wrap ((i : Int) + 1) = (i : Int) + 1 := by have := HK.out; rw [IntKind.wrap_i64]; omega
      obtain ⟨hn0, hn1⟩ := HN.out i hiK
      have c1 := HC.out wi C i hiK
      have BY0 := AB i hiK
      rw [nA_self] at BY0
      have HOI : Hid (∀ j, j < K → ¬ j = i → ¬ o j = o i) := fun j hj hne => HD.out j i hj hiK hne
      have HMY : Hid (o i ∈ os o K) := os_mem o hiK
      have HIK : Hid (i < K) := hiK
      obtain ⟨y, hy⟩ : ∃ y, o i = y := ⟨_, rfl⟩
      obtain ⟨n, hn⟩ : ∃ n, N i = n := ⟨_, rfl⟩
      obtain ⟨d, hd⟩ : ∃ d, c i = d := ⟨_, rfl⟩
      rw [hy, hn, hd] at c1 BY0
      rw [hy] at HOI HMY
      rw [hn] at hn0 hn1
      have HY : Hid (o i = y) := hy
      have HNN : Hid (N i = n) := hn
      have HDD : Hid (c i = d) := hd
      have HN1 : Hid (n ≤ 140737488355280) := hn1
      have HIM : Hid (i ≤ 1000) := by have := HK.out; show i ≤ _; omega
      have HM1 : Hid ((((K : Int)) - intOf (.int .i64 ((i : Int) + 1))).toNat < (((K : Int)) - intOf (.int .i64 (i : Int))).toNat) := by show ((((K : Int)) - intOf (.int .i64 ((i : Int) + 1))).toNat < (((K : Int)) - intOf (.int .i64 (i : Int))).toNat); simp [intOf] <;> omega
      have CLL : Hid (∀ w', Chg wi w' [y] → w'.cell? ⟨lg, i, none⟩ = some (.slice (some ⟨y, 0, none⟩) n d)) := fun w' h => by have q := HC.out w' (C.trans h (fun x hx => Or.inl (by simp at hx; rw [hx]; exact HMY.out))) i HIK.out; rw [HY.out, HNN.out, HDD.out] at q; exact q
      clear hy hn hd hn0 hn1 hiK h8 hi
      go_wp2_with fail
      go_loopw [5] (fun t wr => ∃ k : Nat, k ≤ n ∧ t = .int .i64 (k : Int) ∧ BL wr y n d (nB F i k) ∧ Chg wi wr [y]) (fun t _ => ((n : Int) - intOf t).toNat)
      case atStart => exact ⟨0, Nat.zero_le _, rfl, by rw [nB_0]; exact BY0, Chg.refl _ _⟩
      case round =>
        clear c1 BY0
        obtain ⟨k, hk, rfl, BY, C2⟩ := hrel
        have CL : Hid (∀ w', Chg wi w' [y] → w'.cell? ⟨lg, i, none⟩ = some (.slice (some ⟨y, 0, none⟩) n d)) := CLL.out
        have c1 := CL.out wr C2
        by_cases h9 : k = n
        · subst h9
          have hJ : ¬ (k : Int) < (k : Int) := by omega
          go_wp2_with fail
          refine ⟨⟨i + 1, by have := HIK.out; omega, rfl, fun j hj => ?_, C.trans C2 (fun x hx => Or.inl (by simp at hx; rw [hx]; exact HMY.out))⟩, HM1.out⟩
          by_cases hji : j = i
          · subst hji
            rw [HY.out, HNN.out, HDD.out]
            exact BY.cong (nB_end F j k)
          · rw [nA_step F i j hji]
            exact (AB j hj).chg C2 (by simp; exact HOI.out j hj hji)
        · have hkn : k < n := by omega
          have hJ : (k : Int) < (n : Int) := by omega
          have e2 : IntKind.i64.wrap ((k : Int) + 1) = (k : Int) + 1 := by have := HN1.out; rw [IntKind.wrap_i64]; omega
          have HKN : Hid (k < n) := hkn
          have HKM : Hid (k ≤ 140737488355331) := by have := HN1.out; show k ≤ _; omega
          have HUP : Hid (∀ r, r < n → (fun r => if r = k then mb i k else nB F i k r) r = nB F i (k + 1) r) := fun r _ => by rw [nB_up]
          have HM2 : Hid ((((n : Int)) - intOf (.int .i64 ((k : Int) + 1))).toNat < (((n : Int)) - intOf (.int .i64 (k : Int))).toNat) := by show ((((n : Int)) - intOf (.int .i64 ((k : Int) + 1))).toNat < (((n : Int)) - intOf (.int .i64 (k : Int))).toNat); simp [intOf] <;> omega
          obtain ⟨Q0, hQ0⟩ : ∃ Q, nB F i k = Q := ⟨_, rfl⟩
          rw [hQ0] at BY HUP
          clear hQ0 hkn h9 hk AB
          go_wp2_with fail
          refine wp_region_held_drew (S := fun w' => Chg wi w' [y]) (by kernel_rfl) ((C2).drew) (fun hHeld => ?_)
          replace BY := BY.drew
          refine take_val (v := ?_) 0 (some 32) rfl (by kernel_rfl) (by kernel_rfl) (by kernel_rfl) (fun _ _ _ h => h) rfl rfl (fun w hSw => ?_) hHeld ?_
          rotate_left
          · (go_simp; try with_reducible rfl)
          try simp only [Act.put, List.setIfInBounds_toArray, List.set_cons_zero, List.set_cons_succ]
          refine take_val (v := ?_) 1 (some 33) rfl (by kernel_rfl) (by kernel_rfl) (by kernel_rfl) (fun _ _ _ h => h) rfl rfl (fun w hSw => ?_) hHeld ?_
          rotate_left
          · (go_simp; try with_reducible rfl)
          try simp only [Act.put, List.setIfInBounds_toArray, List.set_cons_zero, List.set_cons_succ]
          refine take_val (v := ?_) 2 (some 34) rfl (by kernel_rfl) (by kernel_rfl) (by kernel_rfl) (fun _ _ _ h => h) rfl rfl (fun w hSw => ?_) hHeld ?_
          rotate_left
          · (go_simp; try with_reducible rfl)
          try simp only [Act.put, List.setIfInBounds_toArray, List.set_cons_zero, List.set_cons_succ]
          refine take_val (v := (.slice (some ⟨y, 0, none⟩) n d)) 3 (some 35) rfl (by kernel_rfl) (by kernel_rfl) (by kernel_rfl) (fun _ _ _ h => h) rfl rfl (fun w hSw => ?_) hHeld ?_
          · have c4 := CL.out w hSw
            (go_simp; try with_reducible rfl)
          try simp only [Act.put, List.setIfInBounds_toArray, List.set_cons_zero, List.set_cons_succ]
          refine take_val (v := ?_) 4 (some 36) rfl (by kernel_rfl) (by kernel_rfl) (by kernel_rfl) (fun _ _ _ h => h) rfl rfl (fun w hSw => ?_) hHeld ?_
          rotate_left
          · (go_simp; try with_reducible rfl)
          try simp only [Act.put, List.setIfInBounds_toArray, List.set_cons_zero, List.set_cons_succ]
          refine take_val (v := ?_) 5 (some 37) rfl (by kernel_rfl) (by kernel_rfl) (by kernel_rfl) (fun _ _ _ h => h) rfl rfl (fun w hSw => ?_) hHeld ?_
          rotate_left
          · (go_simp; try with_reducible rfl)
          try simp only [Act.put, List.setIfInBounds_toArray, List.set_cons_zero, List.set_cons_succ]
          refine take_val (v := ?_) 6 (some 38) rfl (by kernel_rfl) (by kernel_rfl) (by kernel_rfl) (fun _ _ _ h => h) rfl rfl (fun w hSw => ?_) hHeld ?_
          rotate_left
          · (go_simp; try with_reducible rfl)
          try simp only [Act.put, List.setIfInBounds_toArray, List.set_cons_zero, List.set_cons_succ]
          refine wpAnyH_ready (rs := [7]) (by kernel_rfl) (by simp) ?_
          refine AllReadyH.cons (o := _) rfl (fun K hK => ?_) ?_
          ·
            go_simp
            refine (markBytes_g i k HIM.out HKM.out _).mono ?_
            rintro e z7 ⟨rfl, q⟩
            replace BY := BY.chg q (by simp)
            go_wp2_with fail
            refine hK.out _ _ (hHeld.trans1 q.wide) (fun hHeld => ?_)
            clear hK K
            try simp only [Act.put, List.setIfInBounds_toArray, List.set_cons_zero, List.set_cons_succ]
            clear q
            refine take_val (v := ?_) 8 (some 40) rfl (by kernel_rfl) (by kernel_rfl) (by kernel_rfl) (fun _ _ _ h => h) rfl rfl (fun w hSw => ?_) hHeld ?_
            rotate_left
            · (go_simp; try with_reducible rfl)
            try simp only [Act.put, List.setIfInBounds_toArray, List.set_cons_zero, List.set_cons_succ]
            refine wpAnyH_ready (rs := [9]) (by kernel_rfl) (by simp) ?_
            refine AllReadyH.cons (o := _) rfl (fun K hK => ?_) ?_
            ·
              rw [if_pos (by rfl)]
              have cq := BY.cell HKN.out
              have fq := BY.frozen k
              go_simp
              replace BY := BY.set HKN.out (mb i k)
              refine hK.out _ _ (hHeld.setIn (by simp) k _) (fun hHeld => ?_)
              clear hK K
              try simp only [Act.put, List.setIfInBounds_toArray, List.set_cons_zero, List.set_cons_succ]
              refine wpAnyH_done (by kernel_rfl) ?_ _
              go_wp2_with fail
              exact ⟨⟨k + 1, HKN.out, rfl, BY.cong HUP.out, hHeld⟩, HM2.out⟩
            exact AllReadyH.nil
          exact AllReadyH.nil
end Go.Proofs.Ytnopkojpgemldaa
