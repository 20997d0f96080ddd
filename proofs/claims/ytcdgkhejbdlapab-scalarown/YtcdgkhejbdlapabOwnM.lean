/- ScalarOwn: what InvertAll answers, put into a book; a list's own copy, written over. -/
import Derived.Test.YtcdgkhejbdlapabBkT
import Derived.Test.YtcdgkhejbdlapabSInv
set_option linter.unusedVariables false
set_option linter.unusedSimpArgs false
set_option linter.unnecessarySimpa false
namespace Go.Proofs.Ytcdgkhejbdlapab
open Go.RowKit N

/-- The inverses' numbers. -/
def ivf (f : Nat → Nat) (j : Nat) : Nat := (iv ((f j : Nat) : Int)).toNat
theorem ivf_cast (f : Nat → Nat) (j : Nat) : ((ivf f j : Nat) : Int) = iv ((f j : Nat) : Int) := Int.toNat_of_nonneg (iv_bd _).1
theorem ivR_fR (f : Nat → Nat) : ivR f 0 = fR (ivf f) := by
  funext j
  show (if j < 0 then feL 0 else feL (iv ((f j : Nat) : Int))) = feL ((ivf f j : Nat) : Int)
  rw [if_neg (by omega), ivf_cast]
theorem L_256 : L < 115792089237316195423570985008687907853269984665640564039457584007913129639936 := by unfold L; decide
theorem ivf_lt (f : Nat → Nat) (j : Nat) : ivf f j < 115792089237316195423570985008687907853269984665640564039457584007913129639936 := by
  have h1 := (iv_bd ((f j : Nat) : Int)).2
  have h2 := L_256
  have h3 := ivf_cast f j
  omega
/-- InvertAll's answer: none, or a list in a block from lo to hi. -/
def Nl (lo hi : Nat) (w : World) (x : Value) (f : Nat → Nat) (N : Nat) (c : Int) : Prop :=
  (c = 9 ∧ x = .slice none 0 0 ∧ ∃ k, k < N ∧ LN ∣ f k) ∨
  (c = 0 ∧ (∀ j, j < N → ¬ LN ∣ f j) ∧ ∃ o, lo ≤ o ∧ o < hi ∧ x = .slice (some ⟨o, 0, none⟩) N N ∧ Blk w o (rL 32 N (ivR f 0)).toArray 23)
theorem InvertAll_x (v : Value) (N : Nat) (f : Nat → Nat) (hN : N ≤ 4398046511104) (w : World) (hL : Ls w v N f) :
    Calls Try.prog 30 #[v] w fun e w' => ∃ x c d, e = .returned (.tuple #[x, .int .i64 c, .int .i64 d]) ∧ Nl w.heap.size w'.heap.size w' x f N c ∧ Chg w w' [] :=
  (InvertAll_s v N f hN w hL).mono fun e w' ⟨hi, hc⟩ => by
    rcases hi with ⟨k, hk, hd, _, he⟩ | ⟨hj, o, ho, he, hb⟩
    · exact ⟨_, 9, _, he, Or.inl ⟨rfl, rfl, k, hk, hd⟩, hc⟩
    · exact ⟨_, 0, _, he, Or.inr ⟨rfl, hj, o, ho, hb.lt, rfl, hb⟩, hc⟩
theorem Nl.chg {lo hi : Nat} {w w' : World} {x : Value} {f : Nat → Nat} {N : Nat} {c : Int} {l : List Nat} (h : Nl lo hi w x f N c) (hc : Chg w w' l) (hl : Fr w 23 l) : Nl lo hi w' x f N c := by
  rcases h with h | ⟨h1, h2, o, h3, h4, h5, h6⟩
  · exact Or.inl h
  · exact Or.inr ⟨h1, h2, o, h3, h4, h5, h6.chg hc (hl _ _ h6)⟩
theorem Nl.same {lo hi lo' hi' : Nat} {w w' : World} {x z : Value} {f : Nat → Nat} {N : Nat} {c c' : Int} (h : Nl lo hi w x f N c) (h' : Nl lo' hi' w' z f N c') : c = c' := by
  rcases h with ⟨a, _, k, hk, hd⟩ | ⟨a, b, _⟩
  · rcases h' with ⟨a', _, _⟩ | ⟨_, b', _⟩
    · rw [a, a']
    · exact absurd hd (b' k hk)
  · rcases h' with ⟨_, _, k, hk, hd⟩ | ⟨a', _, _⟩
    · exact absurd hd (b k hk)
    · rw [a, a']
theorem Nl.ls {lo hi : Nat} {w : World} {x : Value} {f : Nat → Nat} {N : Nat} {c : Int} (h : Nl lo hi w x f N c) (hN : N ≤ 4398046510976) : Ls w x (if c = 9 then 0 else N) (ivf f) := by
  rcases h with ⟨rfl, rfl, _⟩ | ⟨rfl, _, o, _, _, rfl, hb⟩
  · rw [if_pos rfl]
    exact ⟨fun i hi => absurd hi (by omega), Or.inl ⟨rfl, rfl⟩⟩
  · rw [if_neg (by decide)]
    have r : Rl w 32 (.slice (some ⟨o, 0, none⟩) N N) N (ivR f 0) := ⟨ivR_ok f 0 N, Or.inr ⟨o, 0, N, rfl, Nat.le_refl _, by omega, hb.lt, fun r hr => by rw [Nat.zero_add]; exact hb.rangeRw (ivR_ok f 0 N) hr⟩⟩
    rw [ivR_fR] at r
    exact r.ls (fun i _ => ivf_lt f i)
theorem FrB.nil (w : World) (bx : Nat) : FrB w bx [] := ⟨fun y hy => by simp at hy, Fr.nil _ _, Fr.nil _ _⟩
set_option maxRecDepth 100000 in
/-- Such an answer put into the book. -/
theorem Nl.add {w : World} {gb bx bo : Nat} {L M : List Nat} {K J : Nat} (h : BkT w gb bx bo L M K J) (hK : K ≤ 1000) {lo hi : Nat} {x : Value} {f : Nat → Nat} {N : Nat} {c : Int} (hx : Nl lo hi w x f N c) (hN : N ≤ 4398046510976) (hbo : bo ≤ lo) (hlo : ∀ y, y ∈ L → y < lo) (hh : lo ≤ hi) :
    Calls Try.prog 32 #[.pointer (some ⟨gb, 0, none⟩), x] w fun e w' => e = .returned (.tuple #[]) ∧ (∃ L' K', K' ≤ K + 1 ∧ (∀ y, y ∈ L' → y < hi) ∧ BkT w' gb bx bo L' M K' J) ∧ ∃ l, Chg w w' l ∧ FrB w bx l := by
  have hL : ∀ y, y ∈ L → y < hi := fun y hy => Nat.lt_of_lt_of_le (hlo y hy) hh
  rcases hx with ⟨_, rfl, _⟩ | ⟨_, _, o, h3, h4, rfl, hb⟩
  · refine (BookScalars_0 gb none 0 w).mono ?_
    rintro e w' ⟨rfl, rfl⟩
    exact ⟨rfl, ⟨L, K, by omega, hL, h⟩, [], Chg.refl _ _, FrB.nil _ _⟩
  · by_cases h0 : 0 < N
    · refine (h.addS hK ⟨h0, hN⟩ hb (ivR_ok f 0 N) (by omega) (fun hm => by have := hlo o hm; omega)).mono ?_
      rintro e w' ⟨rfl, hs, hl⟩
      refine ⟨rfl, ⟨_, _, Nat.le_refl _, fun y hy => ?_, hs⟩, hl⟩
      rcases List.mem_cons.1 hy with rfl | hy
      · exact h4
      · exact hL y hy
    · obtain rfl : N = 0 := by omega
      refine (BookScalars_0 gb _ 0 w).mono ?_
      rintro e w' ⟨rfl, rfl⟩
      exact ⟨rfl, ⟨L, K, by omega, hL, h⟩, [], Chg.refl _ _, FrB.nil _ _⟩
set_option maxHeartbeats 4000000 in
set_option maxRecDepth 100000 in
/-- CopyScalars of any list, empty ones among them. -/
theorem CopyScalars_any (v : Value) (n : Nat) (F : Nat → List Value) (w : World) (hn : n ≤ 4398046510976) (hv : Rl w 32 v n F) : Calls Try.prog 29 #[v] w fun e w' => ∃ x, e = .returned x ∧ OwnR w' w.heap.size 23 32 x n F ∧ Chg w w' [] := by
  by_cases h0 : 0 < n
  · exact (CopyScalars_s v n F w h0 (by omega) hv).mono fun e w' ⟨g, cap, he, ho, hc⟩ => ⟨_, he, ho, hc⟩
  · obtain rfl : n = 0 := by omega
    obtain ⟨inf, hinf, hz, hs1, hs2⟩ := scRow
    rcases hv.2 with ⟨_, rfl⟩ | ⟨g, o, cap, rfl, h1, h2, h3, h4⟩
    · go_enter Try.func29, Try.ntmps29
      go_wp2_with (refine wpList_append_own_none rfl (.tmp 4) (.tmp 5) 52 rfl w.heap.size 23 inf 32 Try.underlying52 hinf (.slice none 0 0) 0 [] rfl (World.ownsRow_nil _ _ _ _) rfl ?_)
      go_ret
      exact ⟨_, rfl, OwnR.nil _ _ _ _ F, Chg.refl _ _⟩
    · go_enter Try.func29, Try.ntmps29
      go_wp2_with (refine wpList_append_own_wide w rfl (.tmp 4) (.tmp 5) 52 rfl w.heap.size 23 inf (.agg z32) 32 32 Try.underlying52 hinf hz hs1 hs2 rfl (by decide) (.slice none 0 0) 0 [] rfl (World.ownsRow_nil _ _ _ _) ⟨g, o, none⟩ 0 cap [] rfl rfl (by simp) (by simp) (by simp [maxLen]) (by decide) (Nat.le_refl _) ?_; intro v' w1 O1 q1 hnil; obtain rfl := hnil.2 ⟨rfl, rfl⟩; replace q1 : Chg w w1 [] := Chg.grown (v := .slice none 0 0) q1)
      go_ret
      exact ⟨_, rfl, OwnR.nil _ _ _ _ F, q1⟩
/-- What the law writes at place j. -/
def wv (j : Nat) : Nat := (j + 1) % 256 + j / 256 % 256 * 256
theorem wv_lt (j : Nat) : wv j < 115792089237316195423570985008687907853269984665640564039457584007913129639936 := by unfold wv; omega
theorem two_fe (a b : Nat) (ha : a < 256) (hb : b < 256) (N : Nat) (hN : a + b * 256 = N) :
    #[Value.int .u8 (a : Int), .int .u8 (b : Int), .int .u8 0, .int .u8 0, .int .u8 0, .int .u8 0, .int .u8 0, .int .u8 0, .int .u8 0, .int .u8 0, .int .u8 0, .int .u8 0, .int .u8 0, .int .u8 0, .int .u8 0, .int .u8 0,
      .int .u8 0, .int .u8 0, .int .u8 0, .int .u8 0, .int .u8 0, .int .u8 0, .int .u8 0, .int .u8 0, .int .u8 0, .int .u8 0, .int .u8 0, .int .u8 0, .int .u8 0, .int .u8 0, .int .u8 0, .int .u8 0] = feC (N : Nat) := by
  have h0 : by8 (N : Int) 0 = (a : Int) := by unfold by8; omega
  have h1 : by8 (N : Int) 1 = (b : Int) := by unfold by8; omega
  have hz : ∀ i, 2 ≤ i → by8 (N : Int) i = 0 := fun i hi => by
    unfold by8
    have e : (256 : Int) ^ i = 256 ^ 2 * 256 ^ (i - 2) := by rw [← Int.pow_add]; congr 1; omega
    have p : (1 : Int) ≤ 256 ^ (i - 2) := by have : (0 : Int) < 256 ^ (i - 2) := Int.pow_pos (by decide); omega
    have q : (N : Int) < 256 ^ i := by
      rw [e]
      have : (256 : Int) ^ 2 * 1 ≤ 256 ^ 2 * 256 ^ (i - 2) := Int.mul_le_mul_of_nonneg_left p (by decide)
      omega
    rw [Int.ediv_eq_zero_of_lt (by omega) q]
    rfl
  simp only [feC, feL, h0, h1, hz 2 (by omega), hz 3 (by omega), hz 4 (by omega), hz 5 (by omega), hz 6 (by omega), hz 7 (by omega), hz 8 (by omega), hz 9 (by omega), hz 10 (by omega), hz 11 (by omega), hz 12 (by omega), hz 13 (by omega), hz 14 (by omega), hz 15 (by omega), hz 16 (by omega), hz 17 (by omega), hz 18 (by omega), hz 19 (by omega), hz 20 (by omega), hz 21 (by omega), hz 22 (by omega), hz 23 (by omega), hz 24 (by omega), hz 25 (by omega), hz 26 (by omega), hz 27 (by omega), hz 28 (by omega), hz 29 (by omega), hz 30 (by omega), hz 31 (by omega)]
theorem built2 (a b : Int) : Try.prog.built 23 [(0, .int .u8 a), (1, .int .u8 b)] = some #[.int .u8 a, .int .u8 b, .int .u8 0, .int .u8 0, .int .u8 0, .int .u8 0, .int .u8 0, .int .u8 0, .int .u8 0, .int .u8 0, .int .u8 0, .int .u8 0, .int .u8 0, .int .u8 0, .int .u8 0, .int .u8 0,
      .int .u8 0, .int .u8 0, .int .u8 0, .int .u8 0, .int .u8 0, .int .u8 0, .int .u8 0, .int .u8 0, .int .u8 0, .int .u8 0, .int .u8 0, .int .u8 0, .int .u8 0, .int .u8 0, .int .u8 0, .int .u8 0] := by kernel_rfl
theorem built_wv (i : Nat) : Try.prog.built 23 [(0, .int .u8 (((i + 1) % 256 : Nat) : Int)), (1, .int .u8 ((i / 256 % 256 : Nat) : Int))] = some (feC (wv i : Nat)) := by
  rw [built2, two_fe ((i + 1) % 256) (i / 256 % 256) (by omega) (by omega) (wv i) rfl]
/-- The copy, its first i places written. -/
def PW (w : World) (base : Nat) (p : Option Addr) (n cap i : Nat) : Prop := (n = 0 ∧ p = none ∧ cap = 0) ∨
  ∃ g C, p = some ⟨g, 0, none⟩ ∧ base ≤ g ∧ Blk w g C 23 ∧ n * 32 ≤ C.size ∧ n ≤ cap ∧ cap ≤ 9223372036854775807 ∧ ∀ j, j < i → ∀ q, q < 32 → C[j * 32 + q]? = (feL ((wv j : Nat) : Int))[q]?
theorem OwnR.pw {w : World} {base : Nat} {v : Value} {n : Nat} {F : Nat → List Value} (h : OwnR w base 23 32 v n F) : ∃ p cap, v = .slice p n cap ∧ PW w base p n cap 0 := by
  rcases h.1.2 with ⟨rfl, rfl⟩ | ⟨g, cap, cur, rfl, hb, hg, h1, h2, h3, h4⟩
  · exact ⟨none, 0, rfl, Or.inl ⟨rfl, rfl, rfl⟩⟩
  · exact ⟨_, cap, rfl, Or.inr ⟨g, cur, rfl, hb, hg, by rw [h3]; exact Nat.mul_le_mul_right _ h1, h1, by simpa [maxLen] using h2, fun j hj => absurd hj (by omega)⟩⟩
theorem PW.chg {w w' : World} {base : Nat} {p : Option Addr} {n cap i : Nat} (h : PW w base p n cap i) (hc : Chg w w' []) : PW w' base p n cap i := by
  rcases h with h | ⟨g, C, h1, h2, h3, h4⟩
  · exact Or.inl h
  · exact Or.inr ⟨g, C, h1, h2, h3.chg hc (by simp), h4⟩
theorem PW.ls {w : World} {base : Nat} {p : Option Addr} {n cap : Nat} (h : PW w base p n cap n) : Ls w (.slice p n cap) n wv := by
  refine ⟨fun i _ => wv_lt i, ?_⟩
  rcases h with ⟨rfl, rfl, rfl⟩ | ⟨g, C, rfl, h2, h3, h4, h5, h6, h7⟩
  · exact Or.inl ⟨rfl, rfl⟩
  · refine Or.inr ⟨g, 0, cap, rfl, h5, h6, h3.lt, fun i hi => Fc.ofRange (fun q v hv => ?_) h3.lt⟩
    have hq : q < 32 := by
      have := (List.getElem?_eq_some_iff.1 hv).1
      rw [feL_len] at this
      exact this
    rw [h3.cell, Nat.zero_add, h7 i hi q hq]
    exact hv
theorem store_pw {w : World} {ops : Array Oper} {rest : List Oper} {op : Oper} {a : Act} {Q : Exit → Act → World → Prop} (hgd : op.guard = none) (x y : Operand) (ho : op.op = .store 23 x y) (g i n base cap : Nat) (X : Int) (hX : ((wv i : Nat) : Int) = X) (hx : a.eval x = .pointer (some ⟨g, i * 32, none⟩)) (hy : a.eval y = fe X)
    (hp : PW w base (some ⟨g, 0, none⟩) n cap i) (hi : i < n) (h : ∀ w', PW w' base (some ⟨g, 0, none⟩) n cap (i + 1) → Chg w w' [g] → wpList Try.prog ops Q rest (a.put op.dst undef) w') : wpList Try.prog ops Q (op :: rest) a w := by
  subst hX
  rcases hp with ⟨h0, _⟩ | ⟨g', C, he, h2, h3, h4, h5, h6, h7⟩
  · omega
  · obtain rfl : g = g' := by simpa using he
    have hs : i * 32 + 32 ≤ C.size := by omega
    refine wpList_store_mid hgd 23 x y ho g (i * 32) (feC ((wv i : Nat) : Int)) hx hy (h3.there hs) feInfo (feC_one _) ?_
    refine h _ (Or.inr ⟨g, setL C (i * 32) (feL ((wv i : Nat) : Int)), rfl, h2, h3.setCells (i * 32) (feL ((wv i : Nat) : Int)), by rw [setL_size]; exact h4, h5, h6, fun j hj q hq => ?_⟩) ((Chg.refl w [g]).setCellsIn (by simp) (i * 32) (feL ((wv i : Nat) : Int)))
    rw [setL_get, feL_len]
    by_cases hji : j = i
    · subst hji
      rw [if_pos (by omega), show j * 32 + q - j * 32 = q by omega]
    · rw [if_neg (by omega)]
      exact h7 j (by omega) q hq
end Go.Proofs.Ytcdgkhejbdlapab
