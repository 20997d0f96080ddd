/- Joined: GvG, ScD, BkE, BkSc, BkG, BkSh, BkIn, BkA3. -/
import Derived.Test.YtledggdoehnlcaaGreatMgB
import Derived.Test.YtledggdoehnlcaaGreatMgC
import Derived.ArgAppend
/- rimeplain.Given: its thirty lists as a function; a pair of its lists (what was handed in, and its twins). Of no package. -/
set_option linter.unusedVariables false
set_option linter.unusedSimpArgs false
set_option linter.unnecessarySimpa false
namespace Go.Proofs.YtledggdoehnlcaaGreat
open Go.RowKit

/-- A Given's thirty lists. -/
def gvC (G : Nat → Value) : Array Value := ((List.range 30).map G).toArray
theorem gvC_get (G : Nat → Value) (k : Nat) (h : k < 30) : (gvC G)[k]? = some (G k) := by simp [gvC, h]
def upV (G : Nat → Value) (i : Nat) (v : Value) : Nat → Value := fun j => if j = i then v else G j
theorem upV_same (G : Nat → Value) (i : Nat) (v : Value) : upV G i v i = v := by simp [upV]
theorem upV_other (G : Nat → Value) (i : Nat) (v : Value) (j : Nat) (h : ¬ j = i) : upV G i v j = G j := by simp [upV, h]
theorem gvC_set (G : Nat → Value) (i : Nat) (v : Value) : (gvC G).setIfInBounds i v = gvC (upV G i v) := by
  apply Array.ext_getElem?
  intro k
  by_cases h : k < 30
  · rw [gvC_get _ _ h]
    by_cases h2 : i = k
    · subst h2
      rw [Array.getElem?_setIfInBounds_self_of_lt (by simp [gvC]; exact h), upV_same]
    · rw [Array.getElem?_setIfInBounds_ne h2, gvC_get _ _ h, upV_other _ _ _ _ (fun e => h2 e.symm)]
  · rw [Array.getElem?_eq_none (by simp [gvC]; omega), Array.getElem?_eq_none (by simp [gvC]; omega)]
theorem Blk.ne {w : World} {a b : Nat} {C D : Array Value} {T U : TypeId} (h : Blk w a C T) (k : Blk w b D U) (hT : ¬ T = U) : ¬ a = b := by
  intro e
  subst e
  have : (some (Obj.cells C T (0, 0))) = some (Obj.cells D U (0, 0)) := by rw [← h, ← k]
  simp at this
  exact hT this.2
theorem ownsRow_blk {w : World} {base : Nat} {T : TypeId} {s : Nat} {v : Value} {n : Nat} {xs : List Value} (h : w.ownsRow base T s v n xs) {k : Nat} (hk : k ∈ ob v) : ∃ C, Blk w k C T := by
  rcases h.2 with ⟨rfl, _⟩ | ⟨g, cap, cur, rfl, hb, hg, _⟩
  · simp [ob, Value.ownBlock] at hk
  · simp [ob, Value.ownBlock] at hk
    subst hk
    exact ⟨cur, hg⟩
/-- The pair of lists at p and p + 1 of a Given in block gb: K copies, of N j rows F j each, and their twins. -/
structure Gv (w : World) (gb base : Nat) (G : Nat → Value) (p : Nat) (TG TE T : TypeId) (s K : Nat) (N : Nat → Nat) (F : Nat → Nat → List Value) : Prop where
  gb : Blk w gb (gvC G) TG
  lists : ∃ vs us : List Value, w.ownsRow base TE 1 (G p) K vs ∧ w.ownsRow base TE 1 (G (p + 1)) K us ∧ (∀ x, x ∈ ob (G p) → ¬ x ∈ ob (G (p + 1))) ∧
    ∀ j, j < K → ∃ o x, vs[j]? = some (.slice (some ⟨o, 0, none⟩) (N j) (N j)) ∧ us[j]? = some x ∧ N j ≤ 9223372036854775807 ∧ Blk w o (rL s (N j) (F j)).toArray T ∧ OwnR w base T s x (N j) (F j)
/-- What a call of Given may turn. -/
def gch (gb : Nat) (G : Nat → Value) (p : Nat) : List Nat := gb :: (ob (G p) ++ ob (G (p + 1)))
theorem Gv.off {w : World} {gb base : Nat} {G : Nat → Value} {p : Nat} {TG TE T : TypeId} {s K : Nat} {N : Nat → Nat} {F : Nat → Nat → List Value} (h : Gv w gb base G p TG TE T s K N F) {o : Nat} {C : Array Value} {U : TypeId} (hb : Blk w o C U) (h1 : ¬ U = TG) (h2 : ¬ U = TE) : ¬ o ∈ gch gb G p := by
  obtain ⟨vs, us, l1, l2, _⟩ := h.lists
  intro hm
  rcases List.mem_cons.1 hm with e | hm
  · exact hb.ne h.gb h1 e
  · rcases List.mem_append.1 hm with hm | hm
    · obtain ⟨C', hC⟩ := ownsRow_blk l1 hm
      exact hb.ne hC h2 rfl
    · obtain ⟨C', hC⟩ := ownsRow_blk l2 hm
      exact hb.ne hC h2 rfl
theorem ownR_blk {w : World} {base : Nat} {T : TypeId} {s : Nat} {v : Value} {n : Nat} {F : Nat → List Value} (h : OwnR w base T s v n F) {k : Nat} (hk : k ∈ ob v) : ∃ C, Blk w k C T := ownsRow_blk h.1 hk
/-- It stands where nothing old is turned. -/
theorem Gv.chg {w w' : World} {gb base : Nat} {G : Nat → Value} {p : Nat} {TG TE T : TypeId} {s K : Nat} {N : Nat → Nat} {F : Nat → Nat → List Value} (h : Gv w gb base G p TG TE T s K N F) (hc : Chg w w' []) : Gv w' gb base G p TG TE T s K N F := by
  refine ⟨h.gb.chg hc (by simp), ?_⟩
  obtain ⟨vs, us, l1, l2, hd, hj⟩ := h.lists
  refine ⟨vs, us, ownsRow_chg l1 hc (by simp), ownsRow_chg l2 hc (by simp), hd, fun j hjk => ?_⟩
  obtain ⟨o, x, h1, h2, h3, h4, h5⟩ := hj j hjk
  exact ⟨o, x, h1, h2, h3, h4.chg hc (by simp), h5.chg hc (by simp)⟩
theorem ob_slice (g n c : Nat) : ob (.slice (some ⟨g, 0, none⟩) n c) = [g] := rfl
/-- One more, and its twin: behind both appends. -/
theorem Gv.more {w w' : World} {gb base : Nat} {G : Nat → Value} {p : Nat} {TG TE T : TypeId} {s K : Nat} {N : Nat → Nat} {F : Nat → Nat → List Value} (h : Gv w gb base G p TG TE T s K N F) (hT1 : ¬ T = TG) (hT2 : ¬ T = TE)
    (hc : Chg w w' (gch gb G p)) {la lb : Value} {vs0 us0 : List Value} {o : Nat} {x : Value} {m : Nat} {H : Nat → List Value}
    (k1 : w.ownsRow base TE 1 (G p) K vs0) (k2 : w.ownsRow base TE 1 (G (p + 1)) K us0) (hj : ∀ j, j < K → ∃ o x, vs0[j]? = some (.slice (some ⟨o, 0, none⟩) (N j) (N j)) ∧ us0[j]? = some x ∧ N j ≤ 9223372036854775807 ∧ Blk w o (rL s (N j) (F j)).toArray T ∧ OwnR w base T s x (N j) (F j))
    (hgb : Blk w' gb (gvC (upV (upV G p la) (p + 1) lb)) TG) (l1 : w'.ownsRow base TE 1 la (K + 1) (vs0 ++ [.slice (some ⟨o, 0, none⟩) m m])) (l2 : w'.ownsRow base TE 1 lb (K + 1) (us0 ++ [x])) (hd : ∀ x, x ∈ ob la → ¬ x ∈ ob lb)
    (hm : m ≤ 9223372036854775807) (ho : Blk w' o (rL s m H).toArray T) (hx : OwnR w' base T s x m H) :
    Gv w' gb base (upV (upV G p la) (p + 1) lb) p TG TE T s (K + 1) (fun j => if j = K then m else N j) (fun j => if j = K then H else F j) := by
  refine ⟨hgb, ?_⟩
  have e1 : upV (upV G p la) (p + 1) lb p = la := by rw [upV_other _ _ _ _ (by omega), upV_same]
  have e2 : upV (upV G p la) (p + 1) lb (p + 1) = lb := upV_same _ _ _
  rw [e1, e2]
  have hoff := fun o C hb => h.off (o := o) (C := C) (U := T) hb hT1 hT2
  have s1 : vs0.length = K := by have := k1.1; omega
  have s2 : us0.length = K := by have := k2.1; omega
  refine ⟨_, _, l1, l2, hd, fun j hjk => ?_⟩
  by_cases hjK : j = K
  · subst hjK
    refine ⟨o, x, ?_, ?_, ?_, ?_, ?_⟩
    · rw [List.getElem?_append_right (by omega), s1, if_pos rfl]; simp
    · rw [List.getElem?_append_right (by omega), s2]; simp
    · rw [if_pos rfl]; exact hm
    · rw [if_pos rfl, if_pos rfl]; exact ho
    · rw [if_pos rfl, if_pos rfl]; exact hx
  · obtain ⟨o', x', q1, q2, q3, q4, q5⟩ := hj j (by omega)
    refine ⟨o', x', ?_, ?_, ?_, ?_, ?_⟩
    · rw [List.getElem?_append_left (by omega), if_neg hjK]; exact q1
    · rw [List.getElem?_append_left (by omega)]; exact q2
    · rw [if_neg hjK]; exact q3
    · rw [if_neg hjK, if_neg hjK]; exact q4.chg hc (hoff _ _ q4)
    · rw [if_neg hjK, if_neg hjK]
      exact q5.chg hc (fun k hk => by obtain ⟨C, hC⟩ := ownR_blk q5 hk; exact hoff _ _ hC)
/-- The rows of a copy that is handed in: those that came, and marks behind them. -/
def gvR (mk F : Nat → List Value) (n : Nat) : Nat → List Value := fun j => if j < n then F j else mk j
def gvR1 (mk : Nat → List Value) (z : List Value) (i : Nat) : Nat → List Value := fun j => if j < i then mk j else z
theorem gvR1_step (mk : Nat → List Value) (z : List Value) (i : Nat) : upR (gvR1 mk z i) i (mk i) = gvR1 mk z (i + 1) := by
  funext j; unfold upR gvR1
  by_cases h : j = i
  · subst h; rw [if_pos rfl, if_pos (by omega)]
  · rw [if_neg h]
    by_cases h2 : j < i
    · rw [if_pos h2, if_pos (by omega)]
    · rw [if_neg h2, if_neg (by omega)]
theorem gvR_step (mk F : Nat → List Value) (i : Nat) : upR (gvR mk F i) i (F i) = gvR mk F (i + 1) := by
  funext j; unfold upR gvR
  by_cases h : j = i
  · subst h; rw [if_pos rfl, if_pos (by omega)]
  · rw [if_neg h]
    by_cases h2 : j < i
    · rw [if_pos h2, if_pos (by omega)]
    · rw [if_neg h2, if_neg (by omega)]
theorem gvR1_ok {s m : Nat} {mk : Nat → List Value} {z : List Value} (hm : ∀ i, (mk i).length = s ∧ ∀ v ∈ mk i, v.oneCell' = true) (hz : z.length = s ∧ ∀ v ∈ z, v.oneCell' = true) (i : Nat) : Rok s m (gvR1 mk z i) := fun j _ => by
  unfold gvR1
  by_cases h : j < i
  · rw [if_pos h]; exact hm j
  · rw [if_neg h]; exact hz
theorem gvR_ok {s m n : Nat} {mk F : Nat → List Value} (hm : ∀ i, (mk i).length = s ∧ ∀ v ∈ mk i, v.oneCell' = true) (hF : Rok s n F) (i : Nat) (hi : i ≤ n) : Rok s m (gvR mk F i) := fun j _ => by
  unfold gvR
  by_cases h : j < i
  · rw [if_pos h]; exact hF j (by omega)
  · rw [if_neg h]; exact hm j
end Go.Proofs.YtledggdoehnlcaaGreat

/- rimeplain: markScalars, CopyScalars. -/
set_option linter.unusedVariables false
set_option linter.unusedSimpArgs false
set_option linter.unnecessarySimpa false
namespace Go.Proofs.YtledggdoehnlcaaGreat
open Go.RowKit N

/-- The mark of list i at place k. -/
def mkS (i k : Nat) : Nat := i % 256 + i / 256 % 256 * 256 + k % 256 * 65536 + k / 256 % 256 * 16777216 + 77 * 4294967296
theorem five_fe (a b c d : Nat) (ha : a < 256) (hb : b < 256) (hc : c < 256) (hd : d < 256) (N : Nat) (hN : a + b * 256 + c * 65536 + d * 16777216 + 77 * 4294967296 = N) :
    #[Value.int .u8 (a : Int), .int .u8 (b : Int), .int .u8 (c : Int), .int .u8 (d : Int), .int .u8 77, .int .u8 0, .int .u8 0, .int .u8 0, .int .u8 0, .int .u8 0, .int .u8 0, .int .u8 0, .int .u8 0, .int .u8 0, .int .u8 0, .int .u8 0,
      .int .u8 0, .int .u8 0, .int .u8 0, .int .u8 0, .int .u8 0, .int .u8 0, .int .u8 0, .int .u8 0, .int .u8 0, .int .u8 0, .int .u8 0, .int .u8 0, .int .u8 0, .int .u8 0, .int .u8 0, .int .u8 0] = feC (N : Nat) := by
  have h0 : by8 (N : Int) 0 = (a : Int) := by unfold by8; omega
  have h1 : by8 (N : Int) 1 = (b : Int) := by unfold by8; omega
  have h2 : by8 (N : Int) 2 = (c : Int) := by unfold by8; omega
  have h3 : by8 (N : Int) 3 = (d : Int) := by unfold by8; omega
  have h4 : by8 (N : Int) 4 = 77 := by unfold by8; omega
  have hz : ∀ i, 5 ≤ i → by8 (N : Int) i = 0 := fun i hi => by
    unfold by8
    have e : (256 : Int) ^ i = 256 ^ 5 * 256 ^ (i - 5) := by rw [← Int.pow_add]; congr 1; omega
    have p : (1 : Int) ≤ 256 ^ (i - 5) := by have : (0 : Int) < 256 ^ (i - 5) := Int.pow_pos (by decide); omega
    have q : (N : Int) < 256 ^ i := by
      rw [e]
      have : (256 : Int) ^ 5 * 1 ≤ 256 ^ 5 * 256 ^ (i - 5) := Int.mul_le_mul_of_nonneg_left p (by decide)
      omega
    rw [Int.ediv_eq_zero_of_lt (by omega) q]
    rfl
  simp only [feC, feL, h0, h1, h2, h3, h4, hz 5 (by omega), hz 6 (by omega), hz 7 (by omega), hz 8 (by omega), hz 9 (by omega), hz 10 (by omega), hz 11 (by omega), hz 12 (by omega), hz 13 (by omega), hz 14 (by omega), hz 15 (by omega), hz 16 (by omega), hz 17 (by omega), hz 18 (by omega), hz 19 (by omega), hz 20 (by omega), hz 21 (by omega), hz 22 (by omega), hz 23 (by omega), hz 24 (by omega), hz 25 (by omega), hz 26 (by omega), hz 27 (by omega), hz 28 (by omega), hz 29 (by omega), hz 30 (by omega), hz 31 (by omega)]
theorem mkS_lt (i k : Nat) : mkS i k < 115792089237316195423570985008687907853269984665640564039457584007913129639936 := by unfold mkS; omega
theorem built5 (a b c d : Int) : Tryz.prog.built 24 [(0, .int .u8 a), (1, .int .u8 b), (2, .int .u8 c), (3, .int .u8 d), (4, .int .u8 77)] = some #[.int .u8 a, .int .u8 b, .int .u8 c, .int .u8 d, .int .u8 77, .int .u8 0, .int .u8 0, .int .u8 0, .int .u8 0, .int .u8 0, .int .u8 0, .int .u8 0, .int .u8 0, .int .u8 0, .int .u8 0, .int .u8 0, .int .u8 0, .int .u8 0, .int .u8 0, .int .u8 0, .int .u8 0, .int .u8 0, .int .u8 0, .int .u8 0, .int .u8 0, .int .u8 0, .int .u8 0, .int .u8 0, .int .u8 0, .int .u8 0, .int .u8 0, .int .u8 0] := by kernel_rfl
theorem wpList_build_c' {P : Program} {ops : Array Oper} {rest : List Oper} {o : Oper} {a : Act} {w : World} {Q : Exit → Act → World → Prop} (hg : o.guard = none) (t : TypeId) (parts : Array (Nat × Operand)) (ho : o.op = .build t parts)
    (cells : Array Value) (hb : P.built t (parts.map fun (i, x) => (i, a.eval x)).toList = some cells) (h : wpList P ops Q rest (a.put o.dst (.agg cells)) w) : wpList P ops Q (o :: rest) a w :=
  wpList_build hg t parts ho (by rw [hb]; rfl) (by rw [hb]; exact h)
set_option maxHeartbeats 4000000 in
set_option maxRecDepth 100000 in
theorem markScalars_s (i k : Nat) (hi : i ≤ 140737488355331) (hk : k ≤ 140737488355331) (w : World) : Calls Tryz.prog 99 #[.int .i64 (i : Int), .int .i64 (k : Int)] w fun x w' => x = .returned (fe (mkS i k : Nat)) ∧ Chg w w' [] := by
  have e1 : IntKind.u8.wrap (i : Int) = ((i % 256 : Nat) : Int) := by rw [IntKind.wrap_u8']; omega
  have e2 : IntKind.u8.wrap (k : Int) = ((k % 256 : Nat) : Int) := by rw [IntKind.wrap_u8']; omega
  have e3 : IntKind.u8.wrap ((i : Int) / 256) = ((i / 256 % 256 : Nat) : Int) := by rw [IntKind.wrap_u8']; omega
  have e4 : IntKind.u8.wrap ((k : Int) / 256) = ((k / 256 % 256 : Nat) : Int) := by rw [IntKind.wrap_u8']; omega
  have hf := five_fe (i % 256) (i / 256 % 256) (k % 256) (k / 256 % 256) (by omega) (by omega) (by omega) (by omega) (mkS i k) rfl
  have hb := built5 ((i % 256 : Nat) : Int) ((i / 256 % 256 : Nat) : Int) ((k % 256 : Nat) : Int) ((k / 256 % 256 : Nat) : Int)
  rw [hf] at hb
  clear hf
  obtain ⟨X, hX⟩ : ∃ X : Int, ((mkS i k : Nat) : Int) = X := ⟨_, rfl⟩
  rw [hX] at hb ⊢
  clear hX
  generalize i % 256 = a at *
  generalize i / 256 % 256 = b at *
  generalize k % 256 = c at *
  generalize k / 256 % 256 = d at *
  have F := Blk.new w z32 24
  have HB : Hid _ := hb
  clear hb
  go_enter Tryz.func99, Tryz.ntmps99
  go_wp2_with (first | (refine wpList_build_c' rfl 24 #[(0, .tmp 6), (1, .tmp 9), (2, .tmp 11), (3, .tmp 14), (4, .const (.int .u8 77))] rfl (feC X) (by go_simp; with_reducible exact HB.out) ?_) | (refine wpList_store_row rfl 24 _ _ rfl w.heap.size _ rfl rfl 24 _ F feInfo rfl (feC_one _) ?_))
  exact bodyPost_ret (results_cell_row Tryz.results99 _ _ w.heap.size 24 (feC X) (0, 0) _ rfl (Blk.setRow F _) Tryz.underlying24 rfl feInfo) rfl ⟨rfl, ((Chg.refl w []).alloc _).setRowNew (Nat.le_refl _) _⟩
theorem scRow : ∃ i, Tryz.prog.info? 24 = some i ∧ i.zero = some (.agg z32) ∧ i.size = 32 ∧ i.bytes = 32 := by
  have h : (Tryz.prog.info? 24).map (fun i => (i.zero, i.size, i.bytes)) = some (some (.agg z32), 32, 32) := by kernel_rfl
  cases hi : Tryz.prog.info? 24 with
  | none => rw [hi] at h; simp at h
  | some i => rw [hi] at h; simp at h; exact ⟨i, rfl, h.1, h.2.1, h.2.2⟩
/-- Rows that are numbers. -/
abbrev fR (f : Nat → Nat) : Nat → List Value := fun i => feL ((f i : Nat) : Int)
theorem feL_ok (n : Int) : (feL n).length = 32 ∧ ∀ v ∈ feL n, v.oneCell' = true := ⟨feL_len n, by intro v hv; simp [feL] at hv; rcases hv with rfl | rfl | rfl | rfl | rfl | rfl | rfl | rfl | rfl | rfl | rfl | rfl | rfl | rfl | rfl | rfl | rfl | rfl | rfl | rfl | rfl | rfl | rfl | rfl | rfl | rfl | rfl | rfl | rfl | rfl | rfl | rfl <;> rfl⟩
theorem fR_ok (m : Nat) (f : Nat → Nat) : Rok 32 m (fR f) := fun i _ => feL_ok _
theorem Fc.range' {w : World} {g o : Nat} {n : Int} (h : Fc w g o n) : w.rangeAt g o (feL n) := fun j v hv => by
  have hj : j < 32 := by
    have := (List.getElem?_eq_some_iff.1 hv).1
    rw [feL_len] at this
    exact this
  rw [h.cell j hj]
  have e := feC_get n j hj
  have e2 : (feC n)[j]? = some v := by
    have h' : (feL n).toArray[j]? = some v := by simpa using hv
    exact h'
  rw [e] at e2
  exact e2
theorem Fc.ofRange {w : World} {g o : Nat} {n : Int} (h : w.rangeAt g o (feL n)) (hg : g < w.heap.size) : Fc w g o n := ⟨hg, fun i hi => by
  have e := feC_get n i hi
  have e2 : (feL n)[i]? = some (.int .u8 (by8 n i)) := by rw [← e]; simp
  exact h i _ e2⟩
theorem Ls.rl {w : World} {v : Value} {N : Nat} {f : Nat → Nat} (h : Ls w v N f) : Rl w 32 v N (fR f) := by
  refine ⟨fR_ok N f, ?_⟩
  rcases h.2 with h2 | ⟨g, o, cap, e, h1, h2, h3, h4⟩
  · exact Or.inl h2
  · exact Or.inr ⟨g, o, cap, e, h1, h2, h3, fun i hi => (h4 i hi).range'⟩
theorem Rl.ls {w : World} {v : Value} {N : Nat} {f : Nat → Nat} (h : Rl w 32 v N (fR f)) (hf : ∀ i, i < N → f i < 115792089237316195423570985008687907853269984665640564039457584007913129639936) : Ls w v N f := by
  refine ⟨hf, ?_⟩
  rcases h.2 with h2 | ⟨g, o, cap, e, h1, h2, h3, h4⟩
  · exact Or.inl h2
  · exact Or.inr ⟨g, o, cap, e, h1, h2, h3, fun i hi => Fc.ofRange (h4 i hi) h3⟩
theorem catR_zero (F G : Nat → List Value) : catR F 0 G = G := by funext j; unfold catR; rw [if_neg (by omega), Nat.sub_zero]
/-- A number's 32 bytes loaded from within a block. -/
theorem load_fe {w : World} {ops : Array Oper} {rest : List Oper} {op : Oper} {a : Act} {Q : Exit → Act → World → Prop} (hgd : op.guard = none) (x : Operand) (ho : op.op = .load 24 x) (b o : Nat) (X : Int) (hx : a.eval x = .pointer (some ⟨b, o, none⟩)) (hc : w.rangeAt b o (feL X))
    (h : wpList Tryz.prog ops Q rest (a.put op.dst (fe X)) w) : wpList Tryz.prog ops Q (op :: rest) a w := wpList_load_mid hgd 24 x ho b o hx (feL X) _ hc Tryz.underlying24 rfl feInfo h
end Go.Proofs.YtledggdoehnlcaaGreat

/- rimeplain.Book: its lists, and its looks at lists that are nil. -/
set_option linter.unusedVariables false
set_option linter.unusedSimpArgs false
set_option linter.unnecessarySimpa false
namespace Go.Proofs.YtledggdoehnlcaaGreat
open Go.RowKit

/-- A book's twenty-one lists. -/
def bkC (B : Nat → Value) : Array Value := ((List.range 21).map B).toArray
theorem bkC_get (B : Nat → Value) (k : Nat) (h : k < 21) : (bkC B)[k]? = some (B k) := by simp [bkC, h]
set_option maxHeartbeats 4000000 in
set_option maxRecDepth 100000 in
theorem apartBytes_nil (gb : Nat) (B : Nat → Value) (T : TypeId) (hB : B 0 = .slice none 0 0) (w : World) (h : Blk w gb (bkC B) T) : Calls Tryz.prog 47 #[.pointer (some ⟨gb, 0, none⟩)] w fun e w' => e = .returned (.bool true) ∧ Chg w w' [] := by
  have c0 := (h.cell 0).trans (bkC_get B 0 (by decide))
  rw [hB] at c0
  have cc := Chg.refl w []
  clear h hB
  go_enter Tryz.func47, Tryz.ntmps47
  go_wp2_with fail
  go_loopw [4] (fun t wr => t = .int .i64 0 ∧ Chg w wr []) (fun _ _ => 0)
  case atStart => exact ⟨rfl, cc⟩
  case round =>
    clear cc
    obtain ⟨rfl, cc⟩ := hrel
    go_wp2_with fail
    go_loopw [7] (fun t wr => t = .int .i64 0 ∧ Chg w wr []) (fun _ _ => 0)
    case atStart => exact ⟨rfl, cc⟩
    case round =>
      clear cc
      obtain ⟨rfl, cc⟩ := hrel
      go_wp2_with fail
      go_loopw [10] (fun t wr => t = .int .i64 0 ∧ Chg w wr []) (fun _ _ => 0)
      case atStart => exact ⟨rfl, cc⟩
      case round =>
        clear cc
        obtain ⟨rfl, cc⟩ := hrel
        go_wp2_with fail
        go_ret
        exact ⟨rfl, cc⟩
set_option maxHeartbeats 4000000 in
set_option maxRecDepth 100000 in
theorem apartInts_nil (gb : Nat) (B : Nat → Value) (T : TypeId) (hB : B 1 = .slice none 0 0) (w : World) (h : Blk w gb (bkC B) T) : Calls Tryz.prog 48 #[.pointer (some ⟨gb, 0, none⟩)] w fun e w' => e = .returned (.bool true) ∧ Chg w w' [] := by
  have c0 := (h.cell 1).trans (bkC_get B 1 (by decide))
  rw [hB] at c0
  have cc := Chg.refl w []
  clear h hB
  go_enter Tryz.func48, Tryz.ntmps48
  go_wp2_with fail
  go_loopw [4] (fun t wr => t = .int .i64 0 ∧ Chg w wr []) (fun _ _ => 0)
  case atStart => exact ⟨rfl, cc⟩
  case round =>
    clear cc
    obtain ⟨rfl, cc⟩ := hrel
    go_wp2_with fail
    go_loopw [7] (fun t wr => t = .int .i64 0 ∧ Chg w wr []) (fun _ _ => 0)
    case atStart => exact ⟨rfl, cc⟩
    case round =>
      clear cc
      obtain ⟨rfl, cc⟩ := hrel
      go_wp2_with fail
      go_loopw [10] (fun t wr => t = .int .i64 0 ∧ Chg w wr []) (fun _ _ => 0)
      case atStart => exact ⟨rfl, cc⟩
      case round =>
        clear cc
        obtain ⟨rfl, cc⟩ := hrel
        go_wp2_with fail
        go_ret
        exact ⟨rfl, cc⟩
set_option maxHeartbeats 4000000 in
set_option maxRecDepth 100000 in
theorem apartPath_nil (gb : Nat) (B : Nat → Value) (T : TypeId) (hB : B 2 = .slice none 0 0) (w : World) (h : Blk w gb (bkC B) T) : Calls Tryz.prog 49 #[.pointer (some ⟨gb, 0, none⟩)] w fun e w' => e = .returned (.bool true) ∧ Chg w w' [] := by
  have c0 := (h.cell 2).trans (bkC_get B 2 (by decide))
  rw [hB] at c0
  have cc := Chg.refl w []
  clear h hB
  go_enter Tryz.func49, Tryz.ntmps49
  go_wp2_with fail
  go_loopw [4] (fun t wr => t = .int .i64 0 ∧ Chg w wr []) (fun _ _ => 0)
  case atStart => exact ⟨rfl, cc⟩
  case round =>
    clear cc
    obtain ⟨rfl, cc⟩ := hrel
    go_wp2_with fail
    go_loopw [7] (fun t wr => t = .int .i64 0 ∧ Chg w wr []) (fun _ _ => 0)
    case atStart => exact ⟨rfl, cc⟩
    case round =>
      clear cc
      obtain ⟨rfl, cc⟩ := hrel
      go_wp2_with fail
      go_loopw [10] (fun t wr => t = .int .i64 0 ∧ Chg w wr []) (fun _ _ => 0)
      case atStart => exact ⟨rfl, cc⟩
      case round =>
        clear cc
        obtain ⟨rfl, cc⟩ := hrel
        go_wp2_with fail
        go_ret
        exact ⟨rfl, cc⟩
set_option maxHeartbeats 4000000 in
set_option maxRecDepth 100000 in
theorem apartFes_nil (gb : Nat) (B : Nat → Value) (T : TypeId) (hB : B 3 = .slice none 0 0) (w : World) (h : Blk w gb (bkC B) T) : Calls Tryz.prog 50 #[.pointer (some ⟨gb, 0, none⟩)] w fun e w' => e = .returned (.bool true) ∧ Chg w w' [] := by
  have c0 := (h.cell 3).trans (bkC_get B 3 (by decide))
  rw [hB] at c0
  have cc := Chg.refl w []
  clear h hB
  go_enter Tryz.func50, Tryz.ntmps50
  go_wp2_with fail
  go_loopw [4] (fun t wr => t = .int .i64 0 ∧ Chg w wr []) (fun _ _ => 0)
  case atStart => exact ⟨rfl, cc⟩
  case round =>
    clear cc
    obtain ⟨rfl, cc⟩ := hrel
    go_wp2_with fail
    go_loopw [7] (fun t wr => t = .int .i64 0 ∧ Chg w wr []) (fun _ _ => 0)
    case atStart => exact ⟨rfl, cc⟩
    case round =>
      clear cc
      obtain ⟨rfl, cc⟩ := hrel
      go_wp2_with fail
      go_loopw [10] (fun t wr => t = .int .i64 0 ∧ Chg w wr []) (fun _ _ => 0)
      case atStart => exact ⟨rfl, cc⟩
      case round =>
        clear cc
        obtain ⟨rfl, cc⟩ := hrel
        go_wp2_with fail
        go_ret
        exact ⟨rfl, cc⟩
set_option maxHeartbeats 4000000 in
set_option maxRecDepth 100000 in
theorem apartScalars_nil (gb : Nat) (B : Nat → Value) (T : TypeId) (hB : B 4 = .slice none 0 0) (w : World) (h : Blk w gb (bkC B) T) : Calls Tryz.prog 51 #[.pointer (some ⟨gb, 0, none⟩)] w fun e w' => e = .returned (.bool true) ∧ Chg w w' [] := by
  have c0 := (h.cell 4).trans (bkC_get B 4 (by decide))
  rw [hB] at c0
  have cc := Chg.refl w []
  clear h hB
  go_enter Tryz.func51, Tryz.ntmps51
  go_wp2_with fail
  go_loopw [4] (fun t wr => t = .int .i64 0 ∧ Chg w wr []) (fun _ _ => 0)
  case atStart => exact ⟨rfl, cc⟩
  case round =>
    clear cc
    obtain ⟨rfl, cc⟩ := hrel
    go_wp2_with fail
    go_loopw [7] (fun t wr => t = .int .i64 0 ∧ Chg w wr []) (fun _ _ => 0)
    case atStart => exact ⟨rfl, cc⟩
    case round =>
      clear cc
      obtain ⟨rfl, cc⟩ := hrel
      go_wp2_with fail
      go_loopw [10] (fun t wr => t = .int .i64 0 ∧ Chg w wr []) (fun _ _ => 0)
      case atStart => exact ⟨rfl, cc⟩
      case round =>
        clear cc
        obtain ⟨rfl, cc⟩ := hrel
        go_wp2_with fail
        go_ret
        exact ⟨rfl, cc⟩
set_option maxHeartbeats 4000000 in
set_option maxRecDepth 100000 in
theorem apartElements_nil (gb : Nat) (B : Nat → Value) (T : TypeId) (hB : B 5 = .slice none 0 0) (w : World) (h : Blk w gb (bkC B) T) : Calls Tryz.prog 52 #[.pointer (some ⟨gb, 0, none⟩)] w fun e w' => e = .returned (.bool true) ∧ Chg w w' [] := by
  have c0 := (h.cell 5).trans (bkC_get B 5 (by decide))
  rw [hB] at c0
  have cc := Chg.refl w []
  clear h hB
  go_enter Tryz.func52, Tryz.ntmps52
  go_wp2_with fail
  go_loopw [4] (fun t wr => t = .int .i64 0 ∧ Chg w wr []) (fun _ _ => 0)
  case atStart => exact ⟨rfl, cc⟩
  case round =>
    clear cc
    obtain ⟨rfl, cc⟩ := hrel
    go_wp2_with fail
    go_loopw [7] (fun t wr => t = .int .i64 0 ∧ Chg w wr []) (fun _ _ => 0)
    case atStart => exact ⟨rfl, cc⟩
    case round =>
      clear cc
      obtain ⟨rfl, cc⟩ := hrel
      go_wp2_with fail
      go_loopw [10] (fun t wr => t = .int .i64 0 ∧ Chg w wr []) (fun _ _ => 0)
      case atStart => exact ⟨rfl, cc⟩
      case round =>
        clear cc
        obtain ⟨rfl, cc⟩ := hrel
        go_wp2_with fail
        go_ret
        exact ⟨rfl, cc⟩
set_option maxHeartbeats 4000000 in
set_option maxRecDepth 100000 in
theorem apartRandoms_nil (gb : Nat) (B : Nat → Value) (T : TypeId) (hB : B 6 = .slice none 0 0) (w : World) (h : Blk w gb (bkC B) T) : Calls Tryz.prog 53 #[.pointer (some ⟨gb, 0, none⟩)] w fun e w' => e = .returned (.bool true) ∧ Chg w w' [] := by
  have c0 := (h.cell 6).trans (bkC_get B 6 (by decide))
  rw [hB] at c0
  have cc := Chg.refl w []
  clear h hB
  go_enter Tryz.func53, Tryz.ntmps53
  go_wp2_with fail
  go_loopw [4] (fun t wr => t = .int .i64 0 ∧ Chg w wr []) (fun _ _ => 0)
  case atStart => exact ⟨rfl, cc⟩
  case round =>
    clear cc
    obtain ⟨rfl, cc⟩ := hrel
    go_wp2_with fail
    go_loopw [7] (fun t wr => t = .int .i64 0 ∧ Chg w wr []) (fun _ _ => 0)
    case atStart => exact ⟨rfl, cc⟩
    case round =>
      clear cc
      obtain ⟨rfl, cc⟩ := hrel
      go_wp2_with fail
      go_loopw [10] (fun t wr => t = .int .i64 0 ∧ Chg w wr []) (fun _ _ => 0)
      case atStart => exact ⟨rfl, cc⟩
      case round =>
        clear cc
        obtain ⟨rfl, cc⟩ := hrel
        go_wp2_with fail
        go_ret
        exact ⟨rfl, cc⟩
set_option maxHeartbeats 4000000 in
set_option maxRecDepth 100000 in
theorem apartHashes_nil (gb : Nat) (B : Nat → Value) (T : TypeId) (hB : B 7 = .slice none 0 0) (w : World) (h : Blk w gb (bkC B) T) : Calls Tryz.prog 54 #[.pointer (some ⟨gb, 0, none⟩)] w fun e w' => e = .returned (.bool true) ∧ Chg w w' [] := by
  have c0 := (h.cell 7).trans (bkC_get B 7 (by decide))
  rw [hB] at c0
  have cc := Chg.refl w []
  clear h hB
  go_enter Tryz.func54, Tryz.ntmps54
  go_wp2_with fail
  go_loopw [4] (fun t wr => t = .int .i64 0 ∧ Chg w wr []) (fun _ _ => 0)
  case atStart => exact ⟨rfl, cc⟩
  case round =>
    clear cc
    obtain ⟨rfl, cc⟩ := hrel
    go_wp2_with fail
    go_loopw [7] (fun t wr => t = .int .i64 0 ∧ Chg w wr []) (fun _ _ => 0)
    case atStart => exact ⟨rfl, cc⟩
    case round =>
      clear cc
      obtain ⟨rfl, cc⟩ := hrel
      go_wp2_with fail
      go_loopw [10] (fun t wr => t = .int .i64 0 ∧ Chg w wr []) (fun _ _ => 0)
      case atStart => exact ⟨rfl, cc⟩
      case round =>
        clear cc
        obtain ⟨rfl, cc⟩ := hrel
        go_wp2_with fail
        go_ret
        exact ⟨rfl, cc⟩
set_option maxHeartbeats 4000000 in
set_option maxRecDepth 100000 in
theorem apartShares_nil (gb : Nat) (B : Nat → Value) (T : TypeId) (hB : B 8 = .slice none 0 0) (w : World) (h : Blk w gb (bkC B) T) : Calls Tryz.prog 55 #[.pointer (some ⟨gb, 0, none⟩)] w fun e w' => e = .returned (.bool true) ∧ Chg w w' [] := by
  have c0 := (h.cell 8).trans (bkC_get B 8 (by decide))
  rw [hB] at c0
  have cc := Chg.refl w []
  clear h hB
  go_enter Tryz.func55, Tryz.ntmps55
  go_wp2_with fail
  go_loopw [4] (fun t wr => t = .int .i64 0 ∧ Chg w wr []) (fun _ _ => 0)
  case atStart => exact ⟨rfl, cc⟩
  case round =>
    clear cc
    obtain ⟨rfl, cc⟩ := hrel
    go_wp2_with fail
    go_loopw [7] (fun t wr => t = .int .i64 0 ∧ Chg w wr []) (fun _ _ => 0)
    case atStart => exact ⟨rfl, cc⟩
    case round =>
      clear cc
      obtain ⟨rfl, cc⟩ := hrel
      go_wp2_with fail
      go_loopw [10] (fun t wr => t = .int .i64 0 ∧ Chg w wr []) (fun _ _ => 0)
      case atStart => exact ⟨rfl, cc⟩
      case round =>
        clear cc
        obtain ⟨rfl, cc⟩ := hrel
        go_wp2_with fail
        go_ret
        exact ⟨rfl, cc⟩
set_option maxHeartbeats 4000000 in
set_option maxRecDepth 100000 in
theorem apartSigShares_nil (gb : Nat) (B : Nat → Value) (T : TypeId) (hB : B 9 = .slice none 0 0) (w : World) (h : Blk w gb (bkC B) T) : Calls Tryz.prog 56 #[.pointer (some ⟨gb, 0, none⟩)] w fun e w' => e = .returned (.bool true) ∧ Chg w w' [] := by
  have c0 := (h.cell 9).trans (bkC_get B 9 (by decide))
  rw [hB] at c0
  have cc := Chg.refl w []
  clear h hB
  go_enter Tryz.func56, Tryz.ntmps56
  go_wp2_with fail
  go_loopw [4] (fun t wr => t = .int .i64 0 ∧ Chg w wr []) (fun _ _ => 0)
  case atStart => exact ⟨rfl, cc⟩
  case round =>
    clear cc
    obtain ⟨rfl, cc⟩ := hrel
    go_wp2_with fail
    go_loopw [7] (fun t wr => t = .int .i64 0 ∧ Chg w wr []) (fun _ _ => 0)
    case atStart => exact ⟨rfl, cc⟩
    case round =>
      clear cc
      obtain ⟨rfl, cc⟩ := hrel
      go_wp2_with fail
      go_loopw [10] (fun t wr => t = .int .i64 0 ∧ Chg w wr []) (fun _ _ => 0)
      case atStart => exact ⟨rfl, cc⟩
      case round =>
        clear cc
        obtain ⟨rfl, cc⟩ := hrel
        go_wp2_with fail
        go_ret
        exact ⟨rfl, cc⟩
set_option maxHeartbeats 4000000 in
set_option maxRecDepth 100000 in
theorem apartFactors_nil (gb : Nat) (B : Nat → Value) (T : TypeId) (hB : B 10 = .slice none 0 0) (w : World) (h : Blk w gb (bkC B) T) : Calls Tryz.prog 57 #[.pointer (some ⟨gb, 0, none⟩)] w fun e w' => e = .returned (.bool true) ∧ Chg w w' [] := by
  have c0 := (h.cell 10).trans (bkC_get B 10 (by decide))
  rw [hB] at c0
  have cc := Chg.refl w []
  clear h hB
  go_enter Tryz.func57, Tryz.ntmps57
  go_wp2_with fail
  go_loopw [4] (fun t wr => t = .int .i64 0 ∧ Chg w wr []) (fun _ _ => 0)
  case atStart => exact ⟨rfl, cc⟩
  case round =>
    clear cc
    obtain ⟨rfl, cc⟩ := hrel
    go_wp2_with fail
    go_loopw [7] (fun t wr => t = .int .i64 0 ∧ Chg w wr []) (fun _ _ => 0)
    case atStart => exact ⟨rfl, cc⟩
    case round =>
      clear cc
      obtain ⟨rfl, cc⟩ := hrel
      go_wp2_with fail
      go_loopw [10] (fun t wr => t = .int .i64 0 ∧ Chg w wr []) (fun _ _ => 0)
      case atStart => exact ⟨rfl, cc⟩
      case round =>
        clear cc
        obtain ⟨rfl, cc⟩ := hrel
        go_wp2_with fail
        go_ret
        exact ⟨rfl, cc⟩
set_option maxHeartbeats 4000000 in
set_option maxRecDepth 100000 in
theorem apartCommitments_nil (gb : Nat) (B : Nat → Value) (T : TypeId) (hB : B 11 = .slice none 0 0) (w : World) (h : Blk w gb (bkC B) T) : Calls Tryz.prog 58 #[.pointer (some ⟨gb, 0, none⟩)] w fun e w' => e = .returned (.bool true) ∧ Chg w w' [] := by
  have c0 := (h.cell 11).trans (bkC_get B 11 (by decide))
  rw [hB] at c0
  have cc := Chg.refl w []
  clear h hB
  go_enter Tryz.func58, Tryz.ntmps58
  go_wp2_with fail
  go_loopw [4] (fun t wr => t = .int .i64 0 ∧ Chg w wr []) (fun _ _ => 0)
  case atStart => exact ⟨rfl, cc⟩
  case round =>
    clear cc
    obtain ⟨rfl, cc⟩ := hrel
    go_wp2_with fail
    go_loopw [7] (fun t wr => t = .int .i64 0 ∧ Chg w wr []) (fun _ _ => 0)
    case atStart => exact ⟨rfl, cc⟩
    case round =>
      clear cc
      obtain ⟨rfl, cc⟩ := hrel
      go_wp2_with fail
      go_loopw [10] (fun t wr => t = .int .i64 0 ∧ Chg w wr []) (fun _ _ => 0)
      case atStart => exact ⟨rfl, cc⟩
      case round =>
        clear cc
        obtain ⟨rfl, cc⟩ := hrel
        go_wp2_with fail
        go_ret
        exact ⟨rfl, cc⟩
set_option maxHeartbeats 4000000 in
set_option maxRecDepth 100000 in
theorem apartPublics_nil (gb : Nat) (B : Nat → Value) (T : TypeId) (hB : B 12 = .slice none 0 0) (w : World) (h : Blk w gb (bkC B) T) : Calls Tryz.prog 59 #[.pointer (some ⟨gb, 0, none⟩)] w fun e w' => e = .returned (.bool true) ∧ Chg w w' [] := by
  have c0 := (h.cell 12).trans (bkC_get B 12 (by decide))
  rw [hB] at c0
  have cc := Chg.refl w []
  clear h hB
  go_enter Tryz.func59, Tryz.ntmps59
  go_wp2_with fail
  go_loopw [4] (fun t wr => t = .int .i64 0 ∧ Chg w wr []) (fun _ _ => 0)
  case atStart => exact ⟨rfl, cc⟩
  case round =>
    clear cc
    obtain ⟨rfl, cc⟩ := hrel
    go_wp2_with fail
    go_loopw [7] (fun t wr => t = .int .i64 0 ∧ Chg w wr []) (fun _ _ => 0)
    case atStart => exact ⟨rfl, cc⟩
    case round =>
      clear cc
      obtain ⟨rfl, cc⟩ := hrel
      go_wp2_with fail
      go_loopw [10] (fun t wr => t = .int .i64 0 ∧ Chg w wr []) (fun _ _ => 0)
      case atStart => exact ⟨rfl, cc⟩
      case round =>
        clear cc
        obtain ⟨rfl, cc⟩ := hrel
        go_wp2_with fail
        go_ret
        exact ⟨rfl, cc⟩
set_option maxHeartbeats 4000000 in
set_option maxRecDepth 100000 in
theorem apartSecrets_nil (gb : Nat) (B : Nat → Value) (T : TypeId) (hB : B 13 = .slice none 0 0) (w : World) (h : Blk w gb (bkC B) T) : Calls Tryz.prog 60 #[.pointer (some ⟨gb, 0, none⟩)] w fun e w' => e = .returned (.bool true) ∧ Chg w w' [] := by
  have c0 := (h.cell 13).trans (bkC_get B 13 (by decide))
  rw [hB] at c0
  have cc := Chg.refl w []
  clear h hB
  go_enter Tryz.func60, Tryz.ntmps60
  go_wp2_with fail
  go_loopw [4] (fun t wr => t = .int .i64 0 ∧ Chg w wr []) (fun _ _ => 0)
  case atStart => exact ⟨rfl, cc⟩
  case round =>
    clear cc
    obtain ⟨rfl, cc⟩ := hrel
    go_wp2_with fail
    go_loopw [7] (fun t wr => t = .int .i64 0 ∧ Chg w wr []) (fun _ _ => 0)
    case atStart => exact ⟨rfl, cc⟩
    case round =>
      clear cc
      obtain ⟨rfl, cc⟩ := hrel
      go_wp2_with fail
      go_loopw [10] (fun t wr => t = .int .i64 0 ∧ Chg w wr []) (fun _ _ => 0)
      case atStart => exact ⟨rfl, cc⟩
      case round =>
        clear cc
        obtain ⟨rfl, cc⟩ := hrel
        go_wp2_with fail
        go_ret
        exact ⟨rfl, cc⟩
set_option maxHeartbeats 4000000 in
set_option maxRecDepth 100000 in
theorem apartComplaints_nil (gb : Nat) (B : Nat → Value) (T : TypeId) (hB : B 14 = .slice none 0 0) (w : World) (h : Blk w gb (bkC B) T) : Calls Tryz.prog 61 #[.pointer (some ⟨gb, 0, none⟩)] w fun e w' => e = .returned (.bool true) ∧ Chg w w' [] := by
  have c0 := (h.cell 14).trans (bkC_get B 14 (by decide))
  rw [hB] at c0
  have cc := Chg.refl w []
  clear h hB
  go_enter Tryz.func61, Tryz.ntmps61
  go_wp2_with fail
  go_loopw [4] (fun t wr => t = .int .i64 0 ∧ Chg w wr []) (fun _ _ => 0)
  case atStart => exact ⟨rfl, cc⟩
  case round =>
    clear cc
    obtain ⟨rfl, cc⟩ := hrel
    go_wp2_with fail
    go_loopw [7] (fun t wr => t = .int .i64 0 ∧ Chg w wr []) (fun _ _ => 0)
    case atStart => exact ⟨rfl, cc⟩
    case round =>
      clear cc
      obtain ⟨rfl, cc⟩ := hrel
      go_wp2_with fail
      go_loopw [10] (fun t wr => t = .int .i64 0 ∧ Chg w wr []) (fun _ _ => 0)
      case atStart => exact ⟨rfl, cc⟩
      case round =>
        clear cc
        obtain ⟨rfl, cc⟩ := hrel
        go_wp2_with fail
        go_ret
        exact ⟨rfl, cc⟩
set_option maxHeartbeats 4000000 in
set_option maxRecDepth 100000 in
theorem apartPlainLinks_nil (gb : Nat) (B : Nat → Value) (T : TypeId) (hB : B 15 = .slice none 0 0) (w : World) (h : Blk w gb (bkC B) T) : Calls Tryz.prog 62 #[.pointer (some ⟨gb, 0, none⟩)] w fun e w' => e = .returned (.bool true) ∧ Chg w w' [] := by
  have c0 := (h.cell 15).trans (bkC_get B 15 (by decide))
  rw [hB] at c0
  have cc := Chg.refl w []
  clear h hB
  go_enter Tryz.func62, Tryz.ntmps62
  go_wp2_with fail
  go_loopw [4] (fun t wr => t = .int .i64 0 ∧ Chg w wr []) (fun _ _ => 0)
  case atStart => exact ⟨rfl, cc⟩
  case round =>
    clear cc
    obtain ⟨rfl, cc⟩ := hrel
    go_wp2_with fail
    go_loopw [7] (fun t wr => t = .int .i64 0 ∧ Chg w wr []) (fun _ _ => 0)
    case atStart => exact ⟨rfl, cc⟩
    case round =>
      clear cc
      obtain ⟨rfl, cc⟩ := hrel
      go_wp2_with fail
      go_loopw [10] (fun t wr => t = .int .i64 0 ∧ Chg w wr []) (fun _ _ => 0)
      case atStart => exact ⟨rfl, cc⟩
      case round =>
        clear cc
        obtain ⟨rfl, cc⟩ := hrel
        go_wp2_with fail
        go_ret
        exact ⟨rfl, cc⟩
set_option maxHeartbeats 4000000 in
set_option maxRecDepth 100000 in
theorem apartPlainClaims_nil (gb : Nat) (B : Nat → Value) (T : TypeId) (hB : B 16 = .slice none 0 0) (w : World) (h : Blk w gb (bkC B) T) : Calls Tryz.prog 63 #[.pointer (some ⟨gb, 0, none⟩)] w fun e w' => e = .returned (.bool true) ∧ Chg w w' [] := by
  have c0 := (h.cell 16).trans (bkC_get B 16 (by decide))
  rw [hB] at c0
  have cc := Chg.refl w []
  clear h hB
  go_enter Tryz.func63, Tryz.ntmps63
  go_wp2_with fail
  go_loopw [4] (fun t wr => t = .int .i64 0 ∧ Chg w wr []) (fun _ _ => 0)
  case atStart => exact ⟨rfl, cc⟩
  case round =>
    clear cc
    obtain ⟨rfl, cc⟩ := hrel
    go_wp2_with fail
    go_loopw [7] (fun t wr => t = .int .i64 0 ∧ Chg w wr []) (fun _ _ => 0)
    case atStart => exact ⟨rfl, cc⟩
    case round =>
      clear cc
      obtain ⟨rfl, cc⟩ := hrel
      go_wp2_with fail
      go_loopw [10] (fun t wr => t = .int .i64 0 ∧ Chg w wr []) (fun _ _ => 0)
      case atStart => exact ⟨rfl, cc⟩
      case round =>
        clear cc
        obtain ⟨rfl, cc⟩ := hrel
        go_wp2_with fail
        go_ret
        exact ⟨rfl, cc⟩
set_option maxHeartbeats 4000000 in
set_option maxRecDepth 100000 in
theorem apartPlainPackets_nil (gb : Nat) (B : Nat → Value) (T : TypeId) (hB : B 17 = .slice none 0 0) (w : World) (h : Blk w gb (bkC B) T) : Calls Tryz.prog 64 #[.pointer (some ⟨gb, 0, none⟩)] w fun e w' => e = .returned (.bool true) ∧ Chg w w' [] := by
  have c0 := (h.cell 17).trans (bkC_get B 17 (by decide))
  rw [hB] at c0
  have cc := Chg.refl w []
  clear h hB
  go_enter Tryz.func64, Tryz.ntmps64
  go_wp2_with fail
  go_loopw [4] (fun t wr => t = .int .i64 0 ∧ Chg w wr []) (fun _ _ => 0)
  case atStart => exact ⟨rfl, cc⟩
  case round =>
    clear cc
    obtain ⟨rfl, cc⟩ := hrel
    go_wp2_with fail
    go_loopw [7] (fun t wr => t = .int .i64 0 ∧ Chg w wr []) (fun _ _ => 0)
    case atStart => exact ⟨rfl, cc⟩
    case round =>
      clear cc
      obtain ⟨rfl, cc⟩ := hrel
      go_wp2_with fail
      go_loopw [10] (fun t wr => t = .int .i64 0 ∧ Chg w wr []) (fun _ _ => 0)
      case atStart => exact ⟨rfl, cc⟩
      case round =>
        clear cc
        obtain ⟨rfl, cc⟩ := hrel
        go_wp2_with fail
        go_ret
        exact ⟨rfl, cc⟩
set_option maxHeartbeats 4000000 in
set_option maxRecDepth 100000 in
theorem apartPlainMessages_nil (gb : Nat) (B : Nat → Value) (T : TypeId) (hB : B 18 = .slice none 0 0) (w : World) (h : Blk w gb (bkC B) T) : Calls Tryz.prog 65 #[.pointer (some ⟨gb, 0, none⟩)] w fun e w' => e = .returned (.bool true) ∧ Chg w w' [] := by
  have c0 := (h.cell 18).trans (bkC_get B 18 (by decide))
  rw [hB] at c0
  have cc := Chg.refl w []
  clear h hB
  go_enter Tryz.func65, Tryz.ntmps65
  go_wp2_with fail
  go_loopw [4] (fun t wr => t = .int .i64 0 ∧ Chg w wr []) (fun _ _ => 0)
  case atStart => exact ⟨rfl, cc⟩
  case round =>
    clear cc
    obtain ⟨rfl, cc⟩ := hrel
    go_wp2_with fail
    go_loopw [7] (fun t wr => t = .int .i64 0 ∧ Chg w wr []) (fun _ _ => 0)
    case atStart => exact ⟨rfl, cc⟩
    case round =>
      clear cc
      obtain ⟨rfl, cc⟩ := hrel
      go_wp2_with fail
      go_loopw [10] (fun t wr => t = .int .i64 0 ∧ Chg w wr []) (fun _ _ => 0)
      case atStart => exact ⟨rfl, cc⟩
      case round =>
        clear cc
        obtain ⟨rfl, cc⟩ := hrel
        go_wp2_with fail
        go_ret
        exact ⟨rfl, cc⟩
set_option maxHeartbeats 4000000 in
set_option maxRecDepth 100000 in
theorem apartPlainSeen_nil (gb : Nat) (B : Nat → Value) (T : TypeId) (hB : B 19 = .slice none 0 0) (w : World) (h : Blk w gb (bkC B) T) : Calls Tryz.prog 66 #[.pointer (some ⟨gb, 0, none⟩)] w fun e w' => e = .returned (.bool true) ∧ Chg w w' [] := by
  have c0 := (h.cell 19).trans (bkC_get B 19 (by decide))
  rw [hB] at c0
  have cc := Chg.refl w []
  clear h hB
  go_enter Tryz.func66, Tryz.ntmps66
  go_wp2_with fail
  go_loopw [4] (fun t wr => t = .int .i64 0 ∧ Chg w wr []) (fun _ _ => 0)
  case atStart => exact ⟨rfl, cc⟩
  case round =>
    clear cc
    obtain ⟨rfl, cc⟩ := hrel
    go_wp2_with fail
    go_loopw [7] (fun t wr => t = .int .i64 0 ∧ Chg w wr []) (fun _ _ => 0)
    case atStart => exact ⟨rfl, cc⟩
    case round =>
      clear cc
      obtain ⟨rfl, cc⟩ := hrel
      go_wp2_with fail
      go_loopw [10] (fun t wr => t = .int .i64 0 ∧ Chg w wr []) (fun _ _ => 0)
      case atStart => exact ⟨rfl, cc⟩
      case round =>
        clear cc
        obtain ⟨rfl, cc⟩ := hrel
        go_wp2_with fail
        go_ret
        exact ⟨rfl, cc⟩
set_option maxHeartbeats 4000000 in
set_option maxRecDepth 100000 in
theorem apartPlainEvents_nil (gb : Nat) (B : Nat → Value) (T : TypeId) (hB : B 20 = .slice none 0 0) (w : World) (h : Blk w gb (bkC B) T) : Calls Tryz.prog 67 #[.pointer (some ⟨gb, 0, none⟩)] w fun e w' => e = .returned (.bool true) ∧ Chg w w' [] := by
  have c0 := (h.cell 20).trans (bkC_get B 20 (by decide))
  rw [hB] at c0
  have cc := Chg.refl w []
  clear h hB
  go_enter Tryz.func67, Tryz.ntmps67
  go_wp2_with fail
  go_loopw [4] (fun t wr => t = .int .i64 0 ∧ Chg w wr []) (fun _ _ => 0)
  case atStart => exact ⟨rfl, cc⟩
  case round =>
    clear cc
    obtain ⟨rfl, cc⟩ := hrel
    go_wp2_with fail
    go_loopw [7] (fun t wr => t = .int .i64 0 ∧ Chg w wr []) (fun _ _ => 0)
    case atStart => exact ⟨rfl, cc⟩
    case round =>
      clear cc
      obtain ⟨rfl, cc⟩ := hrel
      go_wp2_with fail
      go_loopw [10] (fun t wr => t = .int .i64 0 ∧ Chg w wr []) (fun _ _ => 0)
      case atStart => exact ⟨rfl, cc⟩
      case round =>
        clear cc
        obtain ⟨rfl, cc⟩ := hrel
        go_wp2_with fail
        go_ret
        exact ⟨rfl, cc⟩
end Go.Proofs.YtledggdoehnlcaaGreat

/- Book.Scalars: one more list in the book. -/
set_option linter.unusedVariables false
set_option linter.unusedSimpArgs false
set_option linter.unnecessarySimpa false
namespace Go.Proofs.YtledggdoehnlcaaGreat
open Go.RowKit N

theorem z32L : z32 = (z32.toList).toArray := rfl
theorem z32_ok : (z32.toList).length = 32 ∧ ∀ v ∈ z32.toList, v.oneCell' = true := ⟨rfl, by simp [z32, Value.oneCell']⟩
theorem make_si (r : Nat) (hr : r ≤ 4398046511104) (W : World) : (Instr.makeSlice 29 (.int .i64 (r : Int)) (.int .i64 (r : Int))).run Tryz.prog W = .ok (.slice (some ⟨W.heap.size, 0, none⟩) r r) (W.alloc (.cells (rL 32 r fun _ => z32.toList).toArray 24)) := by
  obtain ⟨i, hi, hz, h1, h2⟩ := scRow
  have h := run_make (P := Tryz.prog) W 29 24 i (.agg z32) Tryz.underlying29 hi hz .i64 .i64 (r : Int) (r : Int) (by omega) (by omega) (by rw [h2]; omega) (by omega)
  rw [h, h1, Int.toNat_natCast]
  show Result.ok _ (W.alloc (.cells (madeCells z32 (r * 32)) 24)) = _
  rw [made_r z32 32 r rfl]
theorem listRowS : ∃ i, Tryz.prog.info? 29 = some i ∧ i.zero = some (.slice none 0 0) ∧ i.size = 1 ∧ i.bytes = 24 := by
  have h : (Tryz.prog.info? 29).map (fun i => (i.zero, i.size, i.bytes)) = some (some (.slice none 0 0), 1, 24) := by kernel_rfl
  cases hi : Tryz.prog.info? 29 with
  | none => rw [hi] at h; simp at h
  | some i => rw [hi] at h; simp at h; exact ⟨i, rfl, h.1, h.2.1, h.2.2⟩
theorem bkC_set (B : Nat → Value) (i : Nat) (v : Value) : (bkC B).setIfInBounds i v = bkC (upV B i v) := by
  apply Array.ext_getElem?
  intro k
  by_cases h : k < 21
  · rw [bkC_get _ _ h]
    by_cases h2 : i = k
    · subst h2
      rw [Array.getElem?_setIfInBounds_self_of_lt (by simp [bkC]; exact h), upV_same]
    · rw [Array.getElem?_setIfInBounds_ne h2, bkC_get _ _ h, upV_other _ _ _ _ (fun e => h2 e.symm)]
  · rw [Array.getElem?_eq_none (by simp [bkC]; omega), Array.getElem?_eq_none (by simp [bkC]; omega)]
set_option maxHeartbeats 4000000 in
set_option maxRecDepth 100000 in
theorem BookScalars_nil (gb : Nat) (w : World) : Calls Tryz.prog 18 #[.pointer (some ⟨gb, 0, none⟩), .slice none 0 0] w fun e w' => e = .returned (.tuple #[]) ∧ w' = w := by
  go_enter Tryz.func18, Tryz.ntmps18
  go_wp2_with fail
  go_end0
  exact ⟨rfl, rfl⟩
set_option maxHeartbeats 4000000 in
set_option maxRecDepth 100000 in
theorem BookScalars_s (gb base K o n c : Nat) (B : Nat → Value) (vs : List Value) (hK : K ≤ 1000) (hn : 0 < n) (w : World) (hb : base ≤ w.heap.size) (h : Blk w gb (bkC B) 65) (hl : w.ownsRow base 29 1 (B 4) K vs) :
    Calls Tryz.prog 18 #[.pointer (some ⟨gb, 0, none⟩), .slice (some ⟨o, 0, none⟩) n c] w fun e w' => e = .returned (.tuple #[]) ∧ ∃ lg lc, (lg ∈ ob (B 4) ∨ w.heap.size ≤ lg) ∧ Blk w' gb (bkC (upV B 4 (.slice (some ⟨lg, 0, none⟩) (K + 1) lc))) 65 ∧
      w'.ownsRow base 29 1 (.slice (some ⟨lg, 0, none⟩) (K + 1) lc) (K + 1) (vs ++ [.slice (some ⟨o, 0, none⟩) n c]) ∧ Chg w w' (gb :: ob (B 4)) := by
  obtain ⟨inf, hinf, hz, hs1, hs2⟩ := listRowS
  obtain ⟨la0, hla0⟩ : ∃ v, B 4 = v := ⟨_, rfl⟩
  rw [hla0] at hl ⊢
  have HLA0 : Hid (B 4 = la0) := hla0
  have cg0 : w.cell? ⟨gb, 4, none⟩ = some la0 := by rw [h.cell, bkC_get _ _ (by decide), hla0]
  have g8 : ¬ gb ∈ ob la0 := fun hx => by obtain ⟨C, hC⟩ := ownsRow_blk hl hx; exact h.ne hC (by decide) rfl
  have HNI : Hid (0 < n) := hn
  have hni : (0 : Int) < (n : Int) := by omega
  have AL := Blk.new w #[.slice (some ⟨o, 0, none⟩) n c] 29
  have HNW : Hid (∀ j u, ([.slice (some ⟨o, 0, none⟩) n c] : List Value)[j]? = some u → (w.alloc (.cells #[.slice (some ⟨o, 0, none⟩) n c] 29)).cell? ((⟨w.heap.size, 0, none⟩ : Addr).add j) = some u) := by
    intro j u hj
    refine add_cell ?_
    rw [Nat.zero_add, AL.cell]
    simpa using hj
  have HLA : Hid ((w.alloc (.cells #[.slice (some ⟨o, 0, none⟩) n c] 29)).ownsRow base 29 1 la0 K vs) := hl.alloc _
  have H63 : Hid (K + 1 ≤ maxLen) := by show K + 1 ≤ maxLen; simp only [maxLen]; omega
  have HBY : Hid ((K + 1) * 24 ≤ 140737488355328) := by show (K + 1) * 24 ≤ 140737488355328; omega
  have HBA : Hid (base ≤ (w.alloc (.cells #[.slice (some ⟨o, 0, none⟩) n c] 29)).heap.size) := by show base ≤ _; simp; omega
  have HON : Hid (∀ u ∈ ([.slice (some ⟨o, 0, none⟩) n c] : List Value), u.oneCell' = true) := by show ∀ u ∈ ([.slice (some ⟨o, 0, none⟩) n c] : List Value), u.oneCell' = true; simp [Value.oneCell']
  have GA := h.alloc (.cells #[.slice (some ⟨o, 0, none⟩) n c] 29)
  have CA := (Chg.refl w (gb :: ob la0)).alloc (.cells #[.slice (some ⟨o, 0, none⟩) n c] 29)
  have wasz : (w.alloc (.cells #[.slice (some ⟨o, 0, none⟩) n c] 29)).heap.size = w.heap.size + 1 := by simp
  clear AL hl h hK hn hla0
  go_enter Tryz.func18, Tryz.ntmps18
  go_wp2_with (with_reducible refine wpList_append_lies _ ?_ (.tmp 11) (.tmp 13) 47 ?_ base 29 inf (.slice none 0 0) 1 24 Tryz.underlying47 hinf hz hs1 hs2 ?_ ?_ la0 K vs ?_ HLA.out ⟨w.heap.size, 0, none⟩ 1 1 [.slice (some ⟨o, 0, none⟩) n c] ?_ ?_ HNW.out HON.out ?_ H63.out HBY.out HBA.out (w.heap.size + 1) ?_ ?_
               · rfl
               · rfl
               · rfl
               · decide
               · rfl
               · rfl
               · rfl
               · decide
               · exact wasz
               intro lg lc w1 O1 G1 hat hlt
               replace G1 := Chg.grown G1
               have GB0 := GA.chg G1 g8
               have cgb : w1.cell? ⟨gb, 4, none⟩ = some la0 := by rw [GB0.cell, bkC_get _ _ (by decide)]; exact congrArg some HLA0.out
               have fgb := GB0.frozen 4)
  have lgg : ¬ lg = gb := by obtain ⟨C, hC⟩ := ownsRow_blk O1 (k := lg) (by rw [ob_slice]; simp); exact hC.ne GB0 (by decide)
  have GB := (GB0.setCell 4 (.slice (some ⟨lg, 0, none⟩) (K + 1) lc)).to (bkC_set _ _ _)
  have SV := (Chg.refl w1 [gb]).setIn (k := gb) (by simp) 4 (.slice (some ⟨lg, 0, none⟩) (K + 1) lc)
  have LA1 := ownsRow_chg O1 SV (by rw [ob_slice]; simpa using lgg)
  have CV := (CA.trans G1 (fun x hx => Or.inl (by simp [hx]))).setIn (k := gb) (by simp) 4 (.slice (some ⟨lg, 0, none⟩) (K + 1) lc)
  go_end0
  exact ⟨rfl, lg, lc, by rcases hat with q | q; exact Or.inl (by simp [ob, q]); exact Or.inr (by omega), GB, LA1, CV⟩
end Go.Proofs.YtledggdoehnlcaaGreat

/- Lists of rows that grow by one row: a full one that came from elsewhere, then the call's own. -/
set_option linter.unusedVariables false
set_option linter.unusedSimpArgs false
set_option linter.unnecessarySimpa false
namespace Go.Proofs.YtledggdoehnlcaaGreat
open Go.RowKit N

/-- A list of n rows that is full and has grown by k rows. -/
def Gr (w : World) (base : Nat) (T : TypeId) (s : Nat) (v : Value) (n k : Nat) (M : Nat → List Value) : Prop :=
  (k = 0 ∧ (∃ p, v = .slice p n n) ∧ Rl w s v n M) ∨ OwnR w base T s v (n + k) M
theorem Gr.chg {w w' : World} {base : Nat} {T : TypeId} {s : Nat} {v : Value} {n k : Nat} {M : Nat → List Value} (h : Gr w base T s v n k M) (hc : Chg w w' []) : Gr w' base T s v n k M := by
  rcases h with ⟨h0, h1, h2⟩ | h
  · exact Or.inl ⟨h0, h1, h2.chg hc (Off.nil _)⟩
  · exact Or.inr (h.chg hc (by simp))
theorem cat_one (M : Nat → List Value) (n : Nat) (i : Nat) (hi : i < n + 1) : catR M n (fun _ => M n) i = M i := by
  unfold catR
  by_cases h : i < n
  · rw [if_pos h]
  · rw [if_neg h]
    have : i = n := by omega
    rw [this]
theorem append_g {P : Program} {w : World} {ops : Array Oper} {rest : List Oper} {o : Oper} {a : Act} {Q : Exit → Act → World → Prop} (hgd : o.guard = none) (so xo : Operand) (t : TypeId)
    (ho : o.op = .call { callee := .builtin .append, args := #[so, xo], argTypes := #[t, t] })
    (e : TypeId) (i : TypeInfo) (z : Value) (s bytes : Nat) (ht : P.underlying t = some (.slice e)) (hi : P.info? e = some i) (hz : i.zero = some z)
    (hsize : i.size = s) (hby : i.bytes = bytes) (hzs : z.cells.size = s) (hsz : 0 < s) (base : Nat) (v x : Value) (n k : Nat) (hn : 0 < n) (M : Nat → List Value) (hM : ∀ r, (M r).length = s ∧ ∀ v ∈ M r, v.oneCell' = true) (hs : a.eval so = v) (hxe : a.eval xo = x)
    (hg : Gr w base e s v n k M) (hx : Rl w s x 1 (fun _ => M (n + k))) (hbytes : (n + k + 1) * bytes ≤ 140737488355328) (h63 : n + k + 1 ≤ 9223372036854775807) (hbase : base ≤ w.heap.size)
    (h : ∀ g cap w' l, OwnR w' base e s (.slice (some ⟨g, 0, none⟩) (n + k + 1) cap) (n + k + 1) M → Chg w w' l → (∀ y, y ∈ l → base ≤ y) → wpList P ops Q rest (a.put o.dst (.slice (some ⟨g, 0, none⟩) (n + k + 1) cap)) w') : wpList P ops Q (o :: rest) a w := by
  rcases hg with ⟨rfl, hv, hr⟩ | hown
  · rcases hx.2 with ⟨h0, _⟩ | ⟨gx, ox, cx, rfl, h1, h2, h3, h4⟩
    · omega
    · rcases hr.2 with ⟨h0, _⟩ | ⟨gv, ov, cv, rfl, k1, k2, k3, k4⟩
      · omega
      · have hcv : n = cv := by obtain ⟨p, hp⟩ := hv; simp at hp; exact hp.2.symm
        subst hcv
        refine wpList_append_grows w hgd so xo t ho e i z s bytes ht hi hz hsize hby hzs hsz (some ⟨gv, ov, none⟩) n n (rL s n M) hs (fun hh => by cases hh) (rL_len s n M) (fun b hb => by cases hb; exact Rl.cells (cap := n) hr.1 k4) ⟨gx, ox, none⟩ 1 cx (rL s 1 fun _ => M (n + 0)) hxe (rL_len s 1 _)
          (Rl.cells (cap := cx) hx.1 h4) (rL_one hx.1) (by omega) (by simpa [maxLen] using h63) hbytes ?_
        intro v' w' q1 q2
        rw [rL_cat] at q1
        simp only [Nat.add_zero] at q1
        rw [rL_congr (fun i hi => cat_one M n i hi)] at q1
        obtain ⟨g, cap, rfl, _, hlt⟩ := q1.form (by omega)
        exact h g cap w' [] ⟨ownsRow_base q1 hbase, fun r _ => hM r⟩ (Chg.grown (v := .slice none 0 0) q2) (fun y hy => by simp at hy)
  · refine wpList_append_r hgd so xo t ho e i z s bytes ht hi hz hsize hby hzs hsz base v x (n + k) 1 M (fun _ => M (n + k)) hs hxe hown hx (by decide) hbytes h63 hbase ?_
    intro g cap w' q1 q2 q3 q4
    refine h g cap w' _ ⟨?_, fun r _ => hM r⟩ q2 (fun y hy => ?_)
    · have q := q1.1
      rw [rL_congr (fun i hi => cat_one M (n + k) i hi)] at q
      exact q
    · obtain ⟨g2, c2, rfl, hb2, _⟩ := hown.1.form (by omega)
      simp [ob, Value.ownBlock] at hy
      omega
end Go.Proofs.YtledggdoehnlcaaGreat

/- Book.Shares: one more list of shares in the book. -/
set_option linter.unusedVariables false
set_option linter.unusedSimpArgs false
set_option linter.unnecessarySimpa false
namespace Go.Proofs.YtledggdoehnlcaaGreat
open Go.RowKit N

theorem listRowSh : ∃ i, Tryz.prog.info? 22 = some i ∧ i.zero = some (.slice none 0 0) ∧ i.size = 1 ∧ i.bytes = 24 := by
  have h : (Tryz.prog.info? 22).map (fun i => (i.zero, i.size, i.bytes)) = some (some (.slice none 0 0), 1, 24) := by kernel_rfl
  cases hi : Tryz.prog.info? 22 with
  | none => rw [hi] at h; simp at h
  | some i => rw [hi] at h; simp at h; exact ⟨i, rfl, h.1, h.2.1, h.2.2⟩
set_option maxHeartbeats 4000000 in
set_option maxRecDepth 100000 in
theorem BookShares_nil (gb : Nat) (w : World) : Calls Tryz.prog 17 #[.pointer (some ⟨gb, 0, none⟩), .slice none 0 0] w fun e w' => e = .returned (.tuple #[]) ∧ w' = w := by
  go_enter Tryz.func17, Tryz.ntmps17
  go_wp2_with fail
  go_end0
  exact ⟨rfl, rfl⟩
set_option maxHeartbeats 4000000 in
set_option maxRecDepth 100000 in
theorem BookShares_s (gb base K o n c : Nat) (B : Nat → Value) (vs : List Value) (hK : K ≤ 1000) (hn : 0 < n) (w : World) (hb : base ≤ w.heap.size) (h : Blk w gb (bkC B) 65) (hl : w.ownsRow base 22 1 (B 8) K vs) :
    Calls Tryz.prog 17 #[.pointer (some ⟨gb, 0, none⟩), .slice (some ⟨o, 0, none⟩) n c] w fun e w' => e = .returned (.tuple #[]) ∧ ∃ lg lc, (lg ∈ ob (B 8) ∨ w.heap.size ≤ lg) ∧ Blk w' gb (bkC (upV B 8 (.slice (some ⟨lg, 0, none⟩) (K + 1) lc))) 65 ∧
      w'.ownsRow base 22 1 (.slice (some ⟨lg, 0, none⟩) (K + 1) lc) (K + 1) (vs ++ [.slice (some ⟨o, 0, none⟩) n c]) ∧ Chg w w' (gb :: ob (B 8)) := by
  obtain ⟨inf, hinf, hz, hs1, hs2⟩ := listRowSh
  obtain ⟨la0, hla0⟩ : ∃ v, B 8 = v := ⟨_, rfl⟩
  rw [hla0] at hl ⊢
  have HLA0 : Hid (B 8 = la0) := hla0
  have cg0 : w.cell? ⟨gb, 8, none⟩ = some la0 := by rw [h.cell, bkC_get _ _ (by decide), hla0]
  have g8 : ¬ gb ∈ ob la0 := fun hx => by obtain ⟨C, hC⟩ := ownsRow_blk hl hx; exact h.ne hC (by decide) rfl
  have HNI : Hid (0 < n) := hn
  have hni : (0 : Int) < (n : Int) := by omega
  have AL := Blk.new w #[.slice (some ⟨o, 0, none⟩) n c] 22
  have HNW : Hid (∀ j u, ([.slice (some ⟨o, 0, none⟩) n c] : List Value)[j]? = some u → (w.alloc (.cells #[.slice (some ⟨o, 0, none⟩) n c] 22)).cell? ((⟨w.heap.size, 0, none⟩ : Addr).add j) = some u) := by
    intro j u hj
    refine add_cell ?_
    rw [Nat.zero_add, AL.cell]
    simpa using hj
  have HLA : Hid ((w.alloc (.cells #[.slice (some ⟨o, 0, none⟩) n c] 22)).ownsRow base 22 1 la0 K vs) := hl.alloc _
  have H63 : Hid (K + 1 ≤ maxLen) := by show K + 1 ≤ maxLen; simp only [maxLen]; omega
  have HBY : Hid ((K + 1) * 24 ≤ 140737488355328) := by show (K + 1) * 24 ≤ 140737488355328; omega
  have HBA : Hid (base ≤ (w.alloc (.cells #[.slice (some ⟨o, 0, none⟩) n c] 22)).heap.size) := by show base ≤ _; simp; omega
  have HON : Hid (∀ u ∈ ([.slice (some ⟨o, 0, none⟩) n c] : List Value), u.oneCell' = true) := by show ∀ u ∈ ([.slice (some ⟨o, 0, none⟩) n c] : List Value), u.oneCell' = true; simp [Value.oneCell']
  have GA := h.alloc (.cells #[.slice (some ⟨o, 0, none⟩) n c] 22)
  have CA := (Chg.refl w (gb :: ob la0)).alloc (.cells #[.slice (some ⟨o, 0, none⟩) n c] 22)
  have wasz : (w.alloc (.cells #[.slice (some ⟨o, 0, none⟩) n c] 22)).heap.size = w.heap.size + 1 := by simp
  clear AL hl h hK hn hla0
  go_enter Tryz.func17, Tryz.ntmps17
  go_wp2_with (with_reducible refine wpList_append_lies _ ?_ (.tmp 11) (.tmp 13) 51 ?_ base 22 inf (.slice none 0 0) 1 24 Tryz.underlying51 hinf hz hs1 hs2 ?_ ?_ la0 K vs ?_ HLA.out ⟨w.heap.size, 0, none⟩ 1 1 [.slice (some ⟨o, 0, none⟩) n c] ?_ ?_ HNW.out HON.out ?_ H63.out HBY.out HBA.out (w.heap.size + 1) ?_ ?_
               · rfl
               · rfl
               · rfl
               · decide
               · rfl
               · rfl
               · rfl
               · decide
               · exact wasz
               intro lg lc w1 O1 G1 hat hlt
               replace G1 := Chg.grown G1
               have GB0 := GA.chg G1 g8
               have cgb : w1.cell? ⟨gb, 8, none⟩ = some la0 := by rw [GB0.cell, bkC_get _ _ (by decide)]; exact congrArg some HLA0.out
               have fgb := GB0.frozen 8)
  have lgg : ¬ lg = gb := by obtain ⟨C, hC⟩ := ownsRow_blk O1 (k := lg) (by rw [ob_slice]; simp); exact hC.ne GB0 (by decide)
  have GB := (GB0.setCell 8 (.slice (some ⟨lg, 0, none⟩) (K + 1) lc)).to (bkC_set _ _ _)
  have SV := (Chg.refl w1 [gb]).setIn (k := gb) (by simp) 8 (.slice (some ⟨lg, 0, none⟩) (K + 1) lc)
  have LA1 := ownsRow_chg O1 SV (by rw [ob_slice]; simpa using lgg)
  have CV := (CA.trans G1 (fun x hx => Or.inl (by simp [hx]))).setIn (k := gb) (by simp) 8 (.slice (some ⟨lg, 0, none⟩) (K + 1) lc)
  go_end0
  exact ⟨rfl, lg, lc, by rcases hat with q | q; exact Or.inl (by simp [ob, q]); exact Or.inr (by omega), GB, LA1, CV⟩
end Go.Proofs.YtledggdoehnlcaaGreat

/- Book.Ints: one more list of ints in the book. -/
set_option linter.unusedVariables false
set_option linter.unusedSimpArgs false
set_option linter.unnecessarySimpa false
namespace Go.Proofs.YtledggdoehnlcaaGreat
open Go.RowKit N

theorem listRowI : ∃ i, Tryz.prog.info? 26 = some i ∧ i.zero = some (.slice none 0 0) ∧ i.size = 1 ∧ i.bytes = 24 := by
  have h : (Tryz.prog.info? 26).map (fun i => (i.zero, i.size, i.bytes)) = some (some (.slice none 0 0), 1, 24) := by kernel_rfl
  cases hi : Tryz.prog.info? 26 with
  | none => rw [hi] at h; simp at h
  | some i => rw [hi] at h; simp at h; exact ⟨i, rfl, h.1, h.2.1, h.2.2⟩
set_option maxHeartbeats 4000000 in
set_option maxRecDepth 100000 in
theorem BookInts_nil (gb : Nat) (w : World) : Calls Tryz.prog 19 #[.pointer (some ⟨gb, 0, none⟩), .slice none 0 0] w fun e w' => e = .returned (.tuple #[]) ∧ w' = w := by
  go_enter Tryz.func19, Tryz.ntmps19
  go_wp2_with fail
  go_end0
  exact ⟨rfl, rfl⟩
set_option maxHeartbeats 4000000 in
set_option maxRecDepth 100000 in
theorem BookInts_s (gb base K o n c : Nat) (B : Nat → Value) (vs : List Value) (hK : K ≤ 1000) (hn : 0 < n) (w : World) (hb : base ≤ w.heap.size) (h : Blk w gb (bkC B) 65) (hl : w.ownsRow base 26 1 (B 1) K vs) :
    Calls Tryz.prog 19 #[.pointer (some ⟨gb, 0, none⟩), .slice (some ⟨o, 0, none⟩) n c] w fun e w' => e = .returned (.tuple #[]) ∧ ∃ lg lc, (lg ∈ ob (B 1) ∨ w.heap.size ≤ lg) ∧ Blk w' gb (bkC (upV B 1 (.slice (some ⟨lg, 0, none⟩) (K + 1) lc))) 65 ∧
      w'.ownsRow base 26 1 (.slice (some ⟨lg, 0, none⟩) (K + 1) lc) (K + 1) (vs ++ [.slice (some ⟨o, 0, none⟩) n c]) ∧ Chg w w' (gb :: ob (B 1)) := by
  obtain ⟨inf, hinf, hz, hs1, hs2⟩ := listRowI
  obtain ⟨la0, hla0⟩ : ∃ v, B 1 = v := ⟨_, rfl⟩
  rw [hla0] at hl ⊢
  have HLA0 : Hid (B 1 = la0) := hla0
  have cg0 : w.cell? ⟨gb, 1, none⟩ = some la0 := by rw [h.cell, bkC_get _ _ (by decide), hla0]
  have g8 : ¬ gb ∈ ob la0 := fun hx => by obtain ⟨C, hC⟩ := ownsRow_blk hl hx; exact h.ne hC (by decide) rfl
  have HNI : Hid (0 < n) := hn
  have hni : (0 : Int) < (n : Int) := by omega
  have AL := Blk.new w #[.slice (some ⟨o, 0, none⟩) n c] 26
  have HNW : Hid (∀ j u, ([.slice (some ⟨o, 0, none⟩) n c] : List Value)[j]? = some u → (w.alloc (.cells #[.slice (some ⟨o, 0, none⟩) n c] 26)).cell? ((⟨w.heap.size, 0, none⟩ : Addr).add j) = some u) := by
    intro j u hj
    refine add_cell ?_
    rw [Nat.zero_add, AL.cell]
    simpa using hj
  have HLA : Hid ((w.alloc (.cells #[.slice (some ⟨o, 0, none⟩) n c] 26)).ownsRow base 26 1 la0 K vs) := hl.alloc _
  have H63 : Hid (K + 1 ≤ maxLen) := by show K + 1 ≤ maxLen; simp only [maxLen]; omega
  have HBY : Hid ((K + 1) * 24 ≤ 140737488355328) := by show (K + 1) * 24 ≤ 140737488355328; omega
  have HBA : Hid (base ≤ (w.alloc (.cells #[.slice (some ⟨o, 0, none⟩) n c] 26)).heap.size) := by show base ≤ _; simp; omega
  have HON : Hid (∀ u ∈ ([.slice (some ⟨o, 0, none⟩) n c] : List Value), u.oneCell' = true) := by show ∀ u ∈ ([.slice (some ⟨o, 0, none⟩) n c] : List Value), u.oneCell' = true; simp [Value.oneCell']
  have GA := h.alloc (.cells #[.slice (some ⟨o, 0, none⟩) n c] 26)
  have CA := (Chg.refl w (gb :: ob la0)).alloc (.cells #[.slice (some ⟨o, 0, none⟩) n c] 26)
  have wasz : (w.alloc (.cells #[.slice (some ⟨o, 0, none⟩) n c] 26)).heap.size = w.heap.size + 1 := by simp
  clear AL hl h hK hn hla0
  go_enter Tryz.func19, Tryz.ntmps19
  go_wp2_with (with_reducible refine wpList_append_lies _ ?_ (.tmp 11) (.tmp 13) 44 ?_ base 26 inf (.slice none 0 0) 1 24 Tryz.underlying44 hinf hz hs1 hs2 ?_ ?_ la0 K vs ?_ HLA.out ⟨w.heap.size, 0, none⟩ 1 1 [.slice (some ⟨o, 0, none⟩) n c] ?_ ?_ HNW.out HON.out ?_ H63.out HBY.out HBA.out (w.heap.size + 1) ?_ ?_
               · rfl
               · rfl
               · rfl
               · decide
               · rfl
               · rfl
               · rfl
               · decide
               · exact wasz
               intro lg lc w1 O1 G1 hat hlt
               replace G1 := Chg.grown G1
               have GB0 := GA.chg G1 g8
               have cgb : w1.cell? ⟨gb, 1, none⟩ = some la0 := by rw [GB0.cell, bkC_get _ _ (by decide)]; exact congrArg some HLA0.out
               have fgb := GB0.frozen 1)
  have lgg : ¬ lg = gb := by obtain ⟨C, hC⟩ := ownsRow_blk O1 (k := lg) (by rw [ob_slice]; simp); exact hC.ne GB0 (by decide)
  have GB := (GB0.setCell 1 (.slice (some ⟨lg, 0, none⟩) (K + 1) lc)).to (bkC_set _ _ _)
  have SV := (Chg.refl w1 [gb]).setIn (k := gb) (by simp) 1 (.slice (some ⟨lg, 0, none⟩) (K + 1) lc)
  have LA1 := ownsRow_chg O1 SV (by rw [ob_slice]; simpa using lgg)
  have CV := (CA.trans G1 (fun x hx => Or.inl (by simp [hx]))).setIn (k := gb) (by simp) 1 (.slice (some ⟨lg, 0, none⟩) (K + 1) lc)
  go_end0
  exact ⟨rfl, lg, lc, by rcases hat with q | q; exact Or.inl (by simp [ob, q]); exact Or.inr (by omega), GB, LA1, CV⟩
end Go.Proofs.YtledggdoehnlcaaGreat

/- Book.Apart of a book in which only the lists Ints, Scalars and Shares are not nil. -/
set_option linter.unusedVariables false
set_option linter.unusedSimpArgs false
set_option linter.unnecessarySimpa false
namespace Go.Proofs.YtledggdoehnlcaaGreat
open Go.RowKit

theorem Chg.wide2 {w w' : World} {l l' : List Nat} (h : Chg w w' l) : Chg w w' (l ++ l') := (Chg.refl w (l ++ l')).trans h (fun y hy => Or.inl (by simp [hy]))
set_option maxHeartbeats 8000000 in
set_option maxRecDepth 100000 in
theorem Apart_3 (gb : Nat) (B : Nat → Value) (T : TypeId) (l1 l2 l3 : List Nat) (hB : ∀ q, q < 21 → ¬ q = 1 → ¬ q = 4 → ¬ q = 8 → B q = .slice none 0 0) (h1 : ¬ gb ∈ l1) (h2 : ¬ gb ∈ l2) (h3 : ¬ gb ∈ l3) (w : World) (h : Blk w gb (bkC B) T)
    (hx1 : ∀ w', Chg w w' [] → Blk w' gb (bkC B) T → Calls Tryz.prog 48 #[.pointer (some ⟨gb, 0, none⟩)] w' fun e w'' => e = .returned (.bool true) ∧ Chg w' w'' l1)
    (hx2 : ∀ w', Chg w w' l1 → Blk w' gb (bkC B) T → Calls Tryz.prog 51 #[.pointer (some ⟨gb, 0, none⟩)] w' fun e w'' => e = .returned (.bool true) ∧ Chg w' w'' l2)
    (hx3 : ∀ w', Chg w w' (l1 ++ l2) → Blk w' gb (bkC B) T → Calls Tryz.prog 55 #[.pointer (some ⟨gb, 0, none⟩)] w' fun e w'' => e = .returned (.bool true) ∧ Chg w' w'' l3) :
    Calls Tryz.prog 20 #[.pointer (some ⟨gb, 0, none⟩)] w fun e w' => e = .returned (.bool true) ∧ Chg w w' (l1 ++ l2 ++ l3) := by
  have HX1 : Hid (∀ w', Chg w w' [] → Blk w' gb (bkC B) T → Calls Tryz.prog 48 #[.pointer (some ⟨gb, 0, none⟩)] w' fun e w'' => e = .returned (.bool true) ∧ Chg w' w'' l1) := hx1
  have HX2 : Hid (∀ w', Chg w w' l1 → Blk w' gb (bkC B) T → Calls Tryz.prog 51 #[.pointer (some ⟨gb, 0, none⟩)] w' fun e w'' => e = .returned (.bool true) ∧ Chg w' w'' l2) := hx2
  have HX3 : Hid (∀ w', Chg w w' (l1 ++ l2) → Blk w' gb (bkC B) T → Calls Tryz.prog 55 #[.pointer (some ⟨gb, 0, none⟩)] w' fun e w'' => e = .returned (.bool true) ∧ Chg w' w'' l3) := hx3
  have HB : Hid (∀ q, q < 21 → ¬ q = 1 → ¬ q = 4 → ¬ q = 8 → B q = .slice none 0 0) := hB
  have HG1 : Hid (¬ gb ∈ l1) := h1
  have HG2 : Hid (¬ gb ∈ l2) := h2
  have HG3 : Hid (¬ gb ∈ l3) := h3
  have C := Chg.refl w []
  have BK := h
  clear hx1 hx2 hx3 hB h1 h2 h3 h
  go_enter Tryz.func20, Tryz.ntmps20
  go_wp2_with fail
  refine (apartBytes_nil gb B T (HB.out 0 (by decide) (by decide) (by decide) (by decide)) _ BK).mono ?_
  rintro e x0 ⟨rfl, k⟩
  replace BK := BK.chg k (by simp)
  replace C := C.trans1 k
  clear k
  go_wp2_with fail
  refine (HX1.out _ C BK).mono ?_
  rintro e x1 ⟨rfl, k⟩
  replace BK := BK.chg k HG1.out
  have D := (Chg.wide (l := l1) C).trans1 k
  clear C k
  go_wp2_with fail
  refine (apartPath_nil gb B T (HB.out 2 (by decide) (by decide) (by decide) (by decide)) _ BK).mono ?_
  rintro e x2 ⟨rfl, k⟩
  replace BK := BK.chg k (by simp)
  replace D := D.trans1 k.wide
  clear k
  go_wp2_with fail
  refine (apartFes_nil gb B T (HB.out 3 (by decide) (by decide) (by decide) (by decide)) _ BK).mono ?_
  rintro e x3 ⟨rfl, k⟩
  replace BK := BK.chg k (by simp)
  replace D := D.trans1 k.wide
  clear k
  go_wp2_with fail
  refine (HX2.out _ D BK).mono ?_
  rintro e x4 ⟨rfl, k⟩
  replace BK := BK.chg k HG2.out
  have E := (Chg.wide2 (l' := l2) D).trans k (fun y hy => Or.inl (by simp [hy]))
  clear D k
  go_wp2_with fail
  refine (apartElements_nil gb B T (HB.out 5 (by decide) (by decide) (by decide) (by decide)) _ BK).mono ?_
  rintro e x5 ⟨rfl, k⟩
  replace BK := BK.chg k (by simp)
  replace E := E.trans1 k.wide
  clear k
  go_wp2_with fail
  refine (apartRandoms_nil gb B T (HB.out 6 (by decide) (by decide) (by decide) (by decide)) _ BK).mono ?_
  rintro e x6 ⟨rfl, k⟩
  replace BK := BK.chg k (by simp)
  replace E := E.trans1 k.wide
  clear k
  go_wp2_with fail
  refine (apartHashes_nil gb B T (HB.out 7 (by decide) (by decide) (by decide) (by decide)) _ BK).mono ?_
  rintro e x7 ⟨rfl, k⟩
  replace BK := BK.chg k (by simp)
  replace E := E.trans1 k.wide
  clear k
  go_wp2_with fail
  refine (HX3.out _ E BK).mono ?_
  rintro e x8 ⟨rfl, k⟩
  replace BK := BK.chg k HG3.out
  have F := (Chg.wide2 (l' := l3) E).trans k (fun y hy => Or.inl (by simp [hy]))
  clear E k
  go_wp2_with fail
  refine (apartSigShares_nil gb B T (HB.out 9 (by decide) (by decide) (by decide) (by decide)) _ BK).mono ?_
  rintro e x9 ⟨rfl, k⟩
  replace BK := BK.chg k (by simp)
  replace F := F.trans1 k.wide
  clear k
  go_wp2_with fail
  refine (apartFactors_nil gb B T (HB.out 10 (by decide) (by decide) (by decide) (by decide)) _ BK).mono ?_
  rintro e x10 ⟨rfl, k⟩
  replace BK := BK.chg k (by simp)
  replace F := F.trans1 k.wide
  clear k
  go_wp2_with fail
  refine (apartCommitments_nil gb B T (HB.out 11 (by decide) (by decide) (by decide) (by decide)) _ BK).mono ?_
  rintro e x11 ⟨rfl, k⟩
  replace BK := BK.chg k (by simp)
  replace F := F.trans1 k.wide
  clear k
  go_wp2_with fail
  refine (apartPublics_nil gb B T (HB.out 12 (by decide) (by decide) (by decide) (by decide)) _ BK).mono ?_
  rintro e x12 ⟨rfl, k⟩
  replace BK := BK.chg k (by simp)
  replace F := F.trans1 k.wide
  clear k
  go_wp2_with fail
  refine (apartSecrets_nil gb B T (HB.out 13 (by decide) (by decide) (by decide) (by decide)) _ BK).mono ?_
  rintro e x13 ⟨rfl, k⟩
  replace BK := BK.chg k (by simp)
  replace F := F.trans1 k.wide
  clear k
  go_wp2_with fail
  refine (apartComplaints_nil gb B T (HB.out 14 (by decide) (by decide) (by decide) (by decide)) _ BK).mono ?_
  rintro e x14 ⟨rfl, k⟩
  replace BK := BK.chg k (by simp)
  replace F := F.trans1 k.wide
  clear k
  go_wp2_with fail
  refine (apartPlainLinks_nil gb B T (HB.out 15 (by decide) (by decide) (by decide) (by decide)) _ BK).mono ?_
  rintro e x15 ⟨rfl, k⟩
  replace BK := BK.chg k (by simp)
  replace F := F.trans1 k.wide
  clear k
  go_wp2_with fail
  refine (apartPlainClaims_nil gb B T (HB.out 16 (by decide) (by decide) (by decide) (by decide)) _ BK).mono ?_
  rintro e x16 ⟨rfl, k⟩
  replace BK := BK.chg k (by simp)
  replace F := F.trans1 k.wide
  clear k
  go_wp2_with fail
  refine (apartPlainPackets_nil gb B T (HB.out 17 (by decide) (by decide) (by decide) (by decide)) _ BK).mono ?_
  rintro e x17 ⟨rfl, k⟩
  replace BK := BK.chg k (by simp)
  replace F := F.trans1 k.wide
  clear k
  go_wp2_with fail
  refine (apartPlainMessages_nil gb B T (HB.out 18 (by decide) (by decide) (by decide) (by decide)) _ BK).mono ?_
  rintro e x18 ⟨rfl, k⟩
  replace BK := BK.chg k (by simp)
  replace F := F.trans1 k.wide
  clear k
  go_wp2_with fail
  refine (apartPlainSeen_nil gb B T (HB.out 19 (by decide) (by decide) (by decide) (by decide)) _ BK).mono ?_
  rintro e x19 ⟨rfl, k⟩
  replace BK := BK.chg k (by simp)
  replace F := F.trans1 k.wide
  clear k
  go_wp2_with fail
  refine (apartPlainEvents_nil gb B T (HB.out 20 (by decide) (by decide) (by decide) (by decide)) _ BK).mono ?_
  rintro e x20 ⟨rfl, k⟩
  replace BK := BK.chg k (by simp)
  replace F := F.trans1 k.wide
  clear k
  go_wp2_with fail
  go_ret
  exact ⟨rfl, F⟩
end Go.Proofs.YtledggdoehnlcaaGreat
