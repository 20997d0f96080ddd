/- Joined: GvG, GvSc, GvScalars, Lst3, SamS. -/
import Derived.Test.YtemjpibmefggnaaGreatMgB
import Derived.Test.YtemjpibmefggnaaGreatLst
import Derived.Test.YtemjpibmefggnaaGreatLst2
import Derived.Test.YtemjpibmefggnaaGreatMgK
import Derived.Deep.MidRow
/- rimeplain.Given: its thirty lists as a function; a pair of its lists (what was handed in, and its twins). Of no package. -/
set_option linter.unusedVariables false
set_option linter.unusedSimpArgs false
set_option linter.unnecessarySimpa false
namespace Go.Proofs.YtemjpibmefggnaaGreat
open Go.RowKit

/-- A Given's thirty lists. -/
def gvC (G : Nat → Value) : Array Value := ((List.range 30).map G).toArray
theorem gvC_get (G : Nat → Value) (k : Nat) (h : k < 30) : (gvC G)[k]? = some (G k) := by simp [gvC, h]
def upV (G : Nat → Value) (i : Nat) (v : Value) : Nat → Value := fun j => if j = i then v else G j
theorem upV_same (G : Nat → Value) (i : Nat) (v : Value) : upV G i v i = v := by simp [upV]
theorem upV_other (G : Nat → Value) (i : Nat) (v : Value) (j : Nat) (h : ¬ j = i) : upV G i v j = G j := by simp [upV, h]
theorem gvC_set (G : Nat → Value) (i : Nat) (v : Value) : (gvC G).setIfInBounds i v = gvC (upV G i v) := by
  apply Array.ext_getElem?
  intro k
  by_cases h : k < 30
  · rw [gvC_get _ _ h]
    by_cases h2 : i = k
    · subst h2
      rw [Array.getElem?_setIfInBounds_self_of_lt (by simp [gvC]; exact h), upV_same]
    · rw [Array.getElem?_setIfInBounds_ne h2, gvC_get _ _ h, upV_other _ _ _ _ (fun e => h2 e.symm)]
  · rw [Array.getElem?_eq_none (by simp [gvC]; omega), Array.getElem?_eq_none (by simp [gvC]; omega)]
theorem Blk.ne {w : World} {a b : Nat} {C D : Array Value} {T U : TypeId} (h : Blk w a C T) (k : Blk w b D U) (hT : ¬ T = U) : ¬ a = b := by
  intro e
  subst e
  have : (some (Obj.cells C T (0, 0))) = some (Obj.cells D U (0, 0)) := by rw [← h, ← k]
  simp at this
  exact hT this.2
theorem ownsRow_blk {w : World} {base : Nat} {T : TypeId} {s : Nat} {v : Value} {n : Nat} {xs : List Value} (h : w.ownsRow base T s v n xs) {k : Nat} (hk : k ∈ ob v) : ∃ C, Blk w k C T := by
  rcases h.2 with ⟨rfl, _⟩ | ⟨g, cap, cur, rfl, hb, hg, _⟩
  · simp [ob, Value.ownBlock] at hk
  · simp [ob, Value.ownBlock] at hk
    subst hk
    exact ⟨cur, hg⟩
/-- The pair of lists at p and p + 1 of a Given in block gb: K copies, of N j rows F j each, and their twins. -/
structure Gv (w : World) (gb base : Nat) (G : Nat → Value) (p : Nat) (TG TE T : TypeId) (s K : Nat) (N : Nat → Nat) (F : Nat → Nat → List Value) : Prop where
  gb : Blk w gb (gvC G) TG
  lists : ∃ vs us : List Value, w.ownsRow base TE 1 (G p) K vs ∧ w.ownsRow base TE 1 (G (p + 1)) K us ∧ (∀ x, x ∈ ob (G p) → ¬ x ∈ ob (G (p + 1))) ∧
    ∀ j, j < K → ∃ o x, vs[j]? = some (.slice (some ⟨o, 0, none⟩) (N j) (N j)) ∧ us[j]? = some x ∧ N j ≤ 9223372036854775807 ∧ Blk w o (rL s (N j) (F j)).toArray T ∧ OwnR w base T s x (N j) (F j)
/-- What a call of Given may turn. -/
def gch (gb : Nat) (G : Nat → Value) (p : Nat) : List Nat := gb :: (ob (G p) ++ ob (G (p + 1)))
theorem Gv.off {w : World} {gb base : Nat} {G : Nat → Value} {p : Nat} {TG TE T : TypeId} {s K : Nat} {N : Nat → Nat} {F : Nat → Nat → List Value} (h : Gv w gb base G p TG TE T s K N F) {o : Nat} {C : Array Value} {U : TypeId} (hb : Blk w o C U) (h1 : ¬ U = TG) (h2 : ¬ U = TE) : ¬ o ∈ gch gb G p := by
  obtain ⟨vs, us, l1, l2, _⟩ := h.lists
  intro hm
  rcases List.mem_cons.1 hm with e | hm
  · exact hb.ne h.gb h1 e
  · rcases List.mem_append.1 hm with hm | hm
    · obtain ⟨C', hC⟩ := ownsRow_blk l1 hm
      exact hb.ne hC h2 rfl
    · obtain ⟨C', hC⟩ := ownsRow_blk l2 hm
      exact hb.ne hC h2 rfl
theorem ownR_blk {w : World} {base : Nat} {T : TypeId} {s : Nat} {v : Value} {n : Nat} {F : Nat → List Value} (h : OwnR w base T s v n F) {k : Nat} (hk : k ∈ ob v) : ∃ C, Blk w k C T := ownsRow_blk h.1 hk
/-- It stands where nothing old is turned. -/
theorem Gv.chg {w w' : World} {gb base : Nat} {G : Nat → Value} {p : Nat} {TG TE T : TypeId} {s K : Nat} {N : Nat → Nat} {F : Nat → Nat → List Value} (h : Gv w gb base G p TG TE T s K N F) (hc : Chg w w' []) : Gv w' gb base G p TG TE T s K N F := by
  refine ⟨h.gb.chg hc (by simp), ?_⟩
  obtain ⟨vs, us, l1, l2, hd, hj⟩ := h.lists
  refine ⟨vs, us, ownsRow_chg l1 hc (by simp), ownsRow_chg l2 hc (by simp), hd, fun j hjk => ?_⟩
  obtain ⟨o, x, h1, h2, h3, h4, h5⟩ := hj j hjk
  exact ⟨o, x, h1, h2, h3, h4.chg hc (by simp), h5.chg hc (by simp)⟩
theorem ob_slice (g n c : Nat) : ob (.slice (some ⟨g, 0, none⟩) n c) = [g] := rfl
/-- One more, and its twin: behind both appends. -/
theorem Gv.more {w w' : World} {gb base : Nat} {G : Nat → Value} {p : Nat} {TG TE T : TypeId} {s K : Nat} {N : Nat → Nat} {F : Nat → Nat → List Value} (h : Gv w gb base G p TG TE T s K N F) (hT1 : ¬ T = TG) (hT2 : ¬ T = TE)
    (hc : Chg w w' (gch gb G p)) {la lb : Value} {vs0 us0 : List Value} {o : Nat} {x : Value} {m : Nat} {H : Nat → List Value}
    (k1 : w.ownsRow base TE 1 (G p) K vs0) (k2 : w.ownsRow base TE 1 (G (p + 1)) K us0) (hj : ∀ j, j < K → ∃ o x, vs0[j]? = some (.slice (some ⟨o, 0, none⟩) (N j) (N j)) ∧ us0[j]? = some x ∧ N j ≤ 9223372036854775807 ∧ Blk w o (rL s (N j) (F j)).toArray T ∧ OwnR w base T s x (N j) (F j))
    (hgb : Blk w' gb (gvC (upV (upV G p la) (p + 1) lb)) TG) (l1 : w'.ownsRow base TE 1 la (K + 1) (vs0 ++ [.slice (some ⟨o, 0, none⟩) m m])) (l2 : w'.ownsRow base TE 1 lb (K + 1) (us0 ++ [x])) (hd : ∀ x, x ∈ ob la → ¬ x ∈ ob lb)
    (hm : m ≤ 9223372036854775807) (ho : Blk w' o (rL s m H).toArray T) (hx : OwnR w' base T s x m H) :
    Gv w' gb base (upV (upV G p la) (p + 1) lb) p TG TE T s (K + 1) (fun j => if j = K then m else N j) (fun j => if j = K then H else F j) := by
  refine ⟨hgb, ?_⟩
  have e1 : upV (upV G p la) (p + 1) lb p = la := by rw [upV_other _ _ _ _ (by omega), upV_same]
  have e2 : upV (upV G p la) (p + 1) lb (p + 1) = lb := upV_same _ _ _
  rw [e1, e2]
  have hoff := fun o C hb => h.off (o := o) (C := C) (U := T) hb hT1 hT2
  have s1 : vs0.length = K := by have := k1.1; omega
  have s2 : us0.length = K := by have := k2.1; omega
  refine ⟨_, _, l1, l2, hd, fun j hjk => ?_⟩
  by_cases hjK : j = K
  · subst hjK
    refine ⟨o, x, ?_, ?_, ?_, ?_, ?_⟩
    · rw [List.getElem?_append_right (by omega), s1, if_pos rfl]; simp
    · rw [List.getElem?_append_right (by omega), s2]; simp
    · rw [if_pos rfl]; exact hm
    · rw [if_pos rfl, if_pos rfl]; exact ho
    · rw [if_pos rfl, if_pos rfl]; exact hx
  · obtain ⟨o', x', q1, q2, q3, q4, q5⟩ := hj j (by omega)
    refine ⟨o', x', ?_, ?_, ?_, ?_, ?_⟩
    · rw [List.getElem?_append_left (by omega), if_neg hjK]; exact q1
    · rw [List.getElem?_append_left (by omega)]; exact q2
    · rw [if_neg hjK]; exact q3
    · rw [if_neg hjK, if_neg hjK]; exact q4.chg hc (hoff _ _ q4)
    · rw [if_neg hjK, if_neg hjK]
      exact q5.chg hc (fun k hk => by obtain ⟨C, hC⟩ := ownR_blk q5 hk; exact hoff _ _ hC)
/-- The rows of a copy that is handed in: those that came, and marks behind them. -/
def gvR (mk F : Nat → List Value) (n : Nat) : Nat → List Value := fun j => if j < n then F j else mk j
def gvR1 (mk : Nat → List Value) (z : List Value) (i : Nat) : Nat → List Value := fun j => if j < i then mk j else z
theorem gvR1_step (mk : Nat → List Value) (z : List Value) (i : Nat) : upR (gvR1 mk z i) i (mk i) = gvR1 mk z (i + 1) := by
  funext j; unfold upR gvR1
  by_cases h : j = i
  · subst h; rw [if_pos rfl, if_pos (by omega)]
  · rw [if_neg h]
    by_cases h2 : j < i
    · rw [if_pos h2, if_pos (by omega)]
    · rw [if_neg h2, if_neg (by omega)]
theorem gvR_step (mk F : Nat → List Value) (i : Nat) : upR (gvR mk F i) i (F i) = gvR mk F (i + 1) := by
  funext j; unfold upR gvR
  by_cases h : j = i
  · subst h; rw [if_pos rfl, if_pos (by omega)]
  · rw [if_neg h]
    by_cases h2 : j < i
    · rw [if_pos h2, if_pos (by omega)]
    · rw [if_neg h2, if_neg (by omega)]
theorem gvR1_ok {s m : Nat} {mk : Nat → List Value} {z : List Value} (hm : ∀ i, (mk i).length = s ∧ ∀ v ∈ mk i, v.oneCell' = true) (hz : z.length = s ∧ ∀ v ∈ z, v.oneCell' = true) (i : Nat) : Rok s m (gvR1 mk z i) := fun j _ => by
  unfold gvR1
  by_cases h : j < i
  · rw [if_pos h]; exact hm j
  · rw [if_neg h]; exact hz
theorem gvR_ok {s m n : Nat} {mk F : Nat → List Value} (hm : ∀ i, (mk i).length = s ∧ ∀ v ∈ mk i, v.oneCell' = true) (hF : Rok s n F) (i : Nat) (hi : i ≤ n) : Rok s m (gvR mk F i) := fun j _ => by
  unfold gvR
  by_cases h : j < i
  · rw [if_pos h]; exact hF j (by omega)
  · rw [if_neg h]; exact hm j
end Go.Proofs.YtemjpibmefggnaaGreat

/- rimeplain: markScalars, CopyScalars. -/
set_option linter.unusedVariables false
set_option linter.unusedSimpArgs false
set_option linter.unnecessarySimpa false
namespace Go.Proofs.YtemjpibmefggnaaGreat
open Go.RowKit N

/-- The mark of list i at place k. -/
def mkS (i k : Nat) : Nat := i % 256 + i / 256 % 256 * 256 + k % 256 * 65536 + k / 256 % 256 * 16777216 + 77 * 4294967296
theorem five_fe (a b c d : Nat) (ha : a < 256) (hb : b < 256) (hc : c < 256) (hd : d < 256) (N : Nat) (hN : a + b * 256 + c * 65536 + d * 16777216 + 77 * 4294967296 = N) :
    #[Value.int .u8 (a : Int), .int .u8 (b : Int), .int .u8 (c : Int), .int .u8 (d : Int), .int .u8 77, .int .u8 0, .int .u8 0, .int .u8 0, .int .u8 0, .int .u8 0, .int .u8 0, .int .u8 0, .int .u8 0, .int .u8 0, .int .u8 0, .int .u8 0,
      .int .u8 0, .int .u8 0, .int .u8 0, .int .u8 0, .int .u8 0, .int .u8 0, .int .u8 0, .int .u8 0, .int .u8 0, .int .u8 0, .int .u8 0, .int .u8 0, .int .u8 0, .int .u8 0, .int .u8 0, .int .u8 0] = feC (N : Nat) := by
  have h0 : by8 (N : Int) 0 = (a : Int) := by unfold by8; omega
  have h1 : by8 (N : Int) 1 = (b : Int) := by unfold by8; omega
  have h2 : by8 (N : Int) 2 = (c : Int) := by unfold by8; omega
  have h3 : by8 (N : Int) 3 = (d : Int) := by unfold by8; omega
  have h4 : by8 (N : Int) 4 = 77 := by unfold by8; omega
  have hz : ∀ i, 5 ≤ i → by8 (N : Int) i = 0 := fun i hi => by
    unfold by8
    have e : (256 : Int) ^ i = 256 ^ 5 * 256 ^ (i - 5) := by rw [← Int.pow_add]; congr 1; omega
    have p : (1 : Int) ≤ 256 ^ (i - 5) := by have : (0 : Int) < 256 ^ (i - 5) := Int.pow_pos (by decide); omega
    have q : (N : Int) < 256 ^ i := by
      rw [e]
      have : (256 : Int) ^ 5 * 1 ≤ 256 ^ 5 * 256 ^ (i - 5) := Int.mul_le_mul_of_nonneg_left p (by decide)
      omega
    rw [Int.ediv_eq_zero_of_lt (by omega) q]
    rfl
  simp only [feC, feL, h0, h1, h2, h3, h4, hz 5 (by omega), hz 6 (by omega), hz 7 (by omega), hz 8 (by omega), hz 9 (by omega), hz 10 (by omega), hz 11 (by omega), hz 12 (by omega), hz 13 (by omega), hz 14 (by omega), hz 15 (by omega), hz 16 (by omega), hz 17 (by omega), hz 18 (by omega), hz 19 (by omega), hz 20 (by omega), hz 21 (by omega), hz 22 (by omega), hz 23 (by omega), hz 24 (by omega), hz 25 (by omega), hz 26 (by omega), hz 27 (by omega), hz 28 (by omega), hz 29 (by omega), hz 30 (by omega), hz 31 (by omega)]
theorem mkS_lt (i k : Nat) : mkS i k < 115792089237316195423570985008687907853269984665640564039457584007913129639936 := by unfold mkS; omega
theorem built5 (a b c d : Int) : Tryz.prog.built 24 [(0, .int .u8 a), (1, .int .u8 b), (2, .int .u8 c), (3, .int .u8 d), (4, .int .u8 77)] = some #[.int .u8 a, .int .u8 b, .int .u8 c, .int .u8 d, .int .u8 77, .int .u8 0, .int .u8 0, .int .u8 0, .int .u8 0, .int .u8 0, .int .u8 0, .int .u8 0, .int .u8 0, .int .u8 0, .int .u8 0, .int .u8 0, .int .u8 0, .int .u8 0, .int .u8 0, .int .u8 0, .int .u8 0, .int .u8 0, .int .u8 0, .int .u8 0, .int .u8 0, .int .u8 0, .int .u8 0, .int .u8 0, .int .u8 0, .int .u8 0, .int .u8 0, .int .u8 0] := by kernel_rfl
theorem wpList_build_c' {P : Program} {ops : Array Oper} {rest : List Oper} {o : Oper} {a : Act} {w : World} {Q : Exit → Act → World → Prop} (hg : o.guard = none) (t : TypeId) (parts : Array (Nat × Operand)) (ho : o.op = .build t parts)
    (cells : Array Value) (hb : P.built t (parts.map fun (i, x) => (i, a.eval x)).toList = some cells) (h : wpList P ops Q rest (a.put o.dst (.agg cells)) w) : wpList P ops Q (o :: rest) a w :=
  wpList_build hg t parts ho (by rw [hb]; rfl) (by rw [hb]; exact h)
set_option maxHeartbeats 4000000 in
set_option maxRecDepth 100000 in
theorem markScalars_s (i k : Nat) (hi : i ≤ 140737488355331) (hk : k ≤ 140737488355331) (w : World) : Calls Tryz.prog 37 #[.int .i64 (i : Int), .int .i64 (k : Int)] w fun x w' => x = .returned (fe (mkS i k : Nat)) ∧ Chg w w' [] := by
  have e1 : IntKind.u8.wrap (i : Int) = ((i % 256 : Nat) : Int) := by rw [IntKind.wrap_u8']; omega
  have e2 : IntKind.u8.wrap (k : Int) = ((k % 256 : Nat) : Int) := by rw [IntKind.wrap_u8']; omega
  have e3 : IntKind.u8.wrap ((i : Int) / 256) = ((i / 256 % 256 : Nat) : Int) := by rw [IntKind.wrap_u8']; omega
  have e4 : IntKind.u8.wrap ((k : Int) / 256) = ((k / 256 % 256 : Nat) : Int) := by rw [IntKind.wrap_u8']; omega
  have hf := five_fe (i % 256) (i / 256 % 256) (k % 256) (k / 256 % 256) (by omega) (by omega) (by omega) (by omega) (mkS i k) rfl
  have hb := built5 ((i % 256 : Nat) : Int) ((i / 256 % 256 : Nat) : Int) ((k % 256 : Nat) : Int) ((k / 256 % 256 : Nat) : Int)
  rw [hf] at hb
  clear hf
  obtain ⟨X, hX⟩ : ∃ X : Int, ((mkS i k : Nat) : Int) = X := ⟨_, rfl⟩
  rw [hX] at hb ⊢
  clear hX
  generalize i % 256 = a at *
  generalize i / 256 % 256 = b at *
  generalize k % 256 = c at *
  generalize k / 256 % 256 = d at *
  have F := Blk.new w z32 24
  have HB : Hid _ := hb
  clear hb
  go_enter Tryz.func37, Tryz.ntmps37
  go_wp2_with (first | (refine wpList_build_c' rfl 24 #[(0, .tmp 6), (1, .tmp 9), (2, .tmp 11), (3, .tmp 14), (4, .const (.int .u8 77))] rfl (feC X) (by go_simp; with_reducible exact HB.out) ?_) | (refine wpList_store_row rfl 24 _ _ rfl w.heap.size _ rfl rfl 24 _ F feInfo rfl (feC_one _) ?_))
  exact bodyPost_ret (results_cell_row Tryz.results37 _ _ w.heap.size 24 (feC X) (0, 0) _ rfl (Blk.setRow F _) Tryz.underlying24 rfl feInfo) rfl ⟨rfl, ((Chg.refl w []).alloc _).setRowNew (Nat.le_refl _) _⟩
theorem scRow : ∃ i, Tryz.prog.info? 24 = some i ∧ i.zero = some (.agg z32) ∧ i.size = 32 ∧ i.bytes = 32 := by
  have h : (Tryz.prog.info? 24).map (fun i => (i.zero, i.size, i.bytes)) = some (some (.agg z32), 32, 32) := by kernel_rfl
  cases hi : Tryz.prog.info? 24 with
  | none => rw [hi] at h; simp at h
  | some i => rw [hi] at h; simp at h; exact ⟨i, rfl, h.1, h.2.1, h.2.2⟩
/-- Rows that are numbers. -/
abbrev fR (f : Nat → Nat) : Nat → List Value := fun i => feL ((f i : Nat) : Int)
theorem feL_ok (n : Int) : (feL n).length = 32 ∧ ∀ v ∈ feL n, v.oneCell' = true := ⟨feL_len n, by intro v hv; simp [feL] at hv; rcases hv with rfl | rfl | rfl | rfl | rfl | rfl | rfl | rfl | rfl | rfl | rfl | rfl | rfl | rfl | rfl | rfl | rfl | rfl | rfl | rfl | rfl | rfl | rfl | rfl | rfl | rfl | rfl | rfl | rfl | rfl | rfl | rfl <;> rfl⟩
theorem fR_ok (m : Nat) (f : Nat → Nat) : Rok 32 m (fR f) := fun i _ => feL_ok _
theorem Fc.range' {w : World} {g o : Nat} {n : Int} (h : Fc w g o n) : w.rangeAt g o (feL n) := fun j v hv => by
  have hj : j < 32 := by
    have := (List.getElem?_eq_some_iff.1 hv).1
    rw [feL_len] at this
    exact this
  rw [h.cell j hj]
  have e := feC_get n j hj
  have e2 : (feC n)[j]? = some v := by
    have h' : (feL n).toArray[j]? = some v := by simpa using hv
    exact h'
  rw [e] at e2
  exact e2
theorem Fc.ofRange {w : World} {g o : Nat} {n : Int} (h : w.rangeAt g o (feL n)) (hg : g < w.heap.size) : Fc w g o n := ⟨hg, fun i hi => by
  have e := feC_get n i hi
  have e2 : (feL n)[i]? = some (.int .u8 (by8 n i)) := by rw [← e]; simp
  exact h i _ e2⟩
theorem Ls.rl {w : World} {v : Value} {N : Nat} {f : Nat → Nat} (h : Ls w v N f) : Rl w 32 v N (fR f) := by
  refine ⟨fR_ok N f, ?_⟩
  rcases h.2 with h2 | ⟨g, o, cap, e, h1, h2, h3, h4⟩
  · exact Or.inl h2
  · exact Or.inr ⟨g, o, cap, e, h1, h2, h3, fun i hi => (h4 i hi).range'⟩
theorem Rl.ls {w : World} {v : Value} {N : Nat} {f : Nat → Nat} (h : Rl w 32 v N (fR f)) (hf : ∀ i, i < N → f i < 115792089237316195423570985008687907853269984665640564039457584007913129639936) : Ls w v N f := by
  refine ⟨hf, ?_⟩
  rcases h.2 with h2 | ⟨g, o, cap, e, h1, h2, h3, h4⟩
  · exact Or.inl h2
  · exact Or.inr ⟨g, o, cap, e, h1, h2, h3, fun i hi => Fc.ofRange (h4 i hi) h3⟩
theorem catR_zero (F G : Nat → List Value) : catR F 0 G = G := by funext j; unfold catR; rw [if_neg (by omega), Nat.sub_zero]
set_option maxHeartbeats 4000000 in
set_option maxRecDepth 100000 in
theorem CopyScalars_s (v : Value) (n : Nat) (F : Nat → List Value) (w : World) (h0 : 0 < n) (hn : n ≤ 4398046511104) (hv : Rl w 32 v n F) :
    Calls Tryz.prog 38 #[v] w fun e w' => ∃ g cap, e = .returned (.slice (some ⟨g, 0, none⟩) n cap) ∧ OwnR w' w.heap.size 24 32 (.slice (some ⟨g, 0, none⟩) n cap) n F ∧ Chg w w' [] := by
  obtain ⟨inf, hinf, hz, hs1, hs2⟩ := scRow
  go_enter Tryz.func38, Tryz.ntmps38
  go_wp2_with (refine wpList_append_r rfl (.tmp 4) (.tmp 5) 22 rfl 24 inf (.agg z32) 32 32 Tryz.underlying22 hinf hz hs1 hs2 rfl (by omega) w.heap.size (.slice none 0 0) v 0 n F F rfl rfl (OwnR.nil _ _ _ _ F) hv h0 (by omega) (by omega) (Nat.le_refl _) ?_; intro g cap w1 O1 q1 _ _; rw [Nat.zero_add, catR_zero] at O1; rw [Nat.zero_add]; replace q1 : Chg w w1 [] := q1)
  go_ret
  exact ⟨g, cap, rfl, O1, q1⟩
/-- A number's 32 bytes loaded from within a block. -/
theorem load_fe {w : World} {ops : Array Oper} {rest : List Oper} {op : Oper} {a : Act} {Q : Exit → Act → World → Prop} (hgd : op.guard = none) (x : Operand) (ho : op.op = .load 24 x) (b o : Nat) (X : Int) (hx : a.eval x = .pointer (some ⟨b, o, none⟩)) (hc : w.rangeAt b o (feL X))
    (h : wpList Tryz.prog ops Q rest (a.put op.dst (fe X)) w) : wpList Tryz.prog ops Q (op :: rest) a w := wpList_load_mid hgd 24 x ho b o hx (feL X) _ hc Tryz.underlying24 rfl feInfo h
end Go.Proofs.YtemjpibmefggnaaGreat

/- (*Given).Scalars. -/
set_option linter.unusedVariables false
set_option linter.unusedSimpArgs false
set_option linter.unnecessarySimpa false
namespace Go.Proofs.YtemjpibmefggnaaGreat
open Go.RowKit N

theorem z32L : z32 = (z32.toList).toArray := rfl
theorem z32_ok : (z32.toList).length = 32 ∧ ∀ v ∈ z32.toList, v.oneCell' = true := ⟨rfl, by simp [z32, Value.oneCell']⟩
theorem make_si (r : Nat) (hr : r ≤ 4398046511104) (W : World) : (Instr.makeSlice 22 (.int .i64 (r : Int)) (.int .i64 (r : Int))).run Tryz.prog W = .ok (.slice (some ⟨W.heap.size, 0, none⟩) r r) (W.alloc (.cells (rL 32 r fun _ => z32.toList).toArray 24)) := by
  obtain ⟨i, hi, hz, h1, h2⟩ := scRow
  have h := run_make (P := Tryz.prog) W 22 24 i (.agg z32) Tryz.underlying22 hi hz .i64 .i64 (r : Int) (r : Int) (by omega) (by omega) (by rw [h2]; omega) (by omega)
  rw [h, h1, Int.toNat_natCast]
  show Result.ok _ (W.alloc (.cells (madeCells z32 (r * 32)) 24)) = _
  rw [made_r z32 32 r rfl]
theorem listRowS : ∃ i, Tryz.prog.info? 22 = some i ∧ i.zero = some (.slice none 0 0) ∧ i.size = 1 ∧ i.bytes = 24 := by
  have h : (Tryz.prog.info? 22).map (fun i => (i.zero, i.size, i.bytes)) = some (some (.slice none 0 0), 1, 24) := by kernel_rfl
  cases hi : Tryz.prog.info? 22 with
  | none => rw [hi] at h; simp at h
  | some i => rw [hi] at h; simp at h; exact ⟨i, rfl, h.1, h.2.1, h.2.2⟩
theorem mk_ok (i : Nat) : (fR (mkS 987) i).length = 32 ∧ ∀ v ∈ fR (mkS 987) i, v.oneCell' = true := feL_ok _
/-- What Scalars answers and leaves. -/
def GvP (w w' : World) (gb base n m : Nat) (f : Nat → Nat) (G : Nat → Value) (Kn : Nat) (N : Nat → Nat) (F : Nat → Nat → List Value) (r : Value) : Prop :=
  ∃ o la lb, r = .slice (some ⟨o, 0, none⟩) n m ∧ w.heap.size ≤ o ∧ Chg w w' (gch gb G 8) ∧ Blk w' o (rL 32 m (gvR (fR (mkS 987)) (fR f) n)).toArray 24 ∧
    Gv w' gb base (upV (upV G 8 la) (8 + 1) lb) 8 42 22 24 32 (Kn + 1) (fun j => if j = Kn then m else N j) (fun j => if j = Kn then gvR (fR (mkS 987)) (fR f) n else F j)
theorem there_fe {w : World} {b o : Nat} (h : w.there b o 32) (n : Int) : w.there b o (feC n).size := h
set_option maxHeartbeats 8000000 in
set_option maxRecDepth 100000 in
theorem GivenScalars_s (gb n base Kn : Nat) (v : Value) (f : Nat → Nat) (G : Nat → Value) (N : Nat → Nat) (F : Nat → Nat → List Value) (w : World) (hn : n ≤ 4398046511100) (hK : Kn ≤ 1000) (hbase : base ≤ w.heap.size) (hv : Rl w 32 v n (fR f))
    (hg : Gv w gb base G 8 42 22 24 32 Kn N F) :
    Calls Tryz.prog 8 #[.pointer (some ⟨gb, 0, none⟩), v] w fun e w' => ∃ r, e = .returned r ∧ GvP w w' gb base n (n + 3) f G Kn N F r := by
  obtain ⟨vp, vc, rfl, hp⟩ := hv.form
  obtain ⟨m, hm⟩ : ∃ m, n + 3 = m := ⟨_, rfl⟩
  have HM : Hid (n + 3 = m) := hm
  have e1 : IntKind.i64.wrap ((n : Int) + 3) = (m : Int) := by rw [IntKind.wrap_i64]; omega
  have hmk := make_si m (by omega)
  have B0 := Blk.new w (rL 32 m fun _ => z32.toList).toArray 24
  have B1 : Blk (w.alloc (.cells (rL 32 m fun _ => z32.toList).toArray 24)) w.heap.size (rL 32 m (gvR1 (fR (mkS 987)) z32.toList 0)).toArray 24 := B0.to (congrArg List.toArray (rL_congr fun j _ => (if_neg (by omega)).symm))
  have C1 := (Chg.refl w []).alloc (.cells (rL 32 m fun _ => z32.toList).toArray 24)
  have hnm : n < m := by omega
  have hmb : m ≤ 4398046511103 := by omega
  rw [hm]
  clear hm B0 hn
  go_enter Tryz.func8, Tryz.ntmps8
  go_wp2_with fail
  clear hmk
  generalize (rL 32 m fun _ => z32.toList) = L0 at *
  go_loopw [6] (fun t wr => ∃ i : Nat, i ≤ m ∧ t = .int .i64 (i : Int) ∧ Blk wr w.heap.size (rL 32 m (gvR1 (fR (mkS 987)) z32.toList i)).toArray 24 ∧ Chg w wr []) (fun t _ => ((m : Int) - intOf t).toNat)
  case atStart => exact ⟨0, by omega, rfl, B1, C1⟩
  case round =>
    clear B1 C1
    obtain ⟨i, hi, rfl, b0, c0⟩ := hrel
    by_cases h8 : i < m
    · have hI : (i : Int) < (m : Int) := by omega
      have hI0 : (0 : Int) ≤ (i : Int) := by omega
      have HI : Hid (i < m) := h8
      have HI1 : Hid (i ≤ 140737488355331) := by show i ≤ 140737488355331; omega
      have e2 : IntKind.i64.wrap ((i : Int) + 1) = (i : Int) + 1 := by rw [IntKind.wrap_i64]; omega
      have HJ : Hid (((m : Int) - intOf (.int .i64 ((i : Int) + 1))).toNat < ((m : Int) - intOf (.int .i64 (i : Int))).toNat) := by show ((m : Int) - intOf (.int .i64 ((i : Int) + 1))).toNat < ((m : Int) - intOf (.int .i64 (i : Int))).toNat; simp [intOf]; omega
      have HS : Hid (w.heap.size ≤ w.heap.size) := Nat.le_refl _
      clear h8 hi
      go_wp2_with fail
      refine (markScalars_s 987 i (by decide) HI1.out _).mono ?_
      rintro e v1 ⟨rfl, k1⟩
      obtain ⟨X, hX⟩ : ∃ X : Int, ((mkS 987 i : Nat) : Int) = X := ⟨_, rfl⟩
      have eX : fR (mkS 987) i = feL X := by show feL _ = _; rw [hX]
      rw [hX]
      have q0 := b0.chg k1 (by simp)
      have c1 := c0.trans1 k1
      have HO : Hid (Rok 32 m (gvR1 (fR (mkS 987)) z32.toList i)) := gvR1_ok mk_ok z32_ok i
      have HF : Hid (upR (gvR1 (fR (mkS 987)) z32.toList i) i (feL X) = gvR1 (fR (mkS 987)) z32.toList (i + 1)) := by rw [← eX]; exact gvR1_step _ _ _
      clear k1 b0 c0 eX hX hp hv hg hnm hmb hbase hK HM
      generalize gvR1 (fR (mkS 987)) z32.toList i = R0 at *
      go_wp2_with (with_reducible refine wpList_store_rw ?_ 24 (.tmp 22) (.tmp 21) ?_ w.heap.size 32 m i R0 (feL X) 24 ?_ ?_ q0 HO.out HI.out (feL_ok X).1 (feL_ok X).2 feInfo ?_
                   · rfl
                   · rfl
                   · rfl
                   · rfl
                   intro w2 b2 c2
                   rw [HF.out] at b2)
      exact ⟨⟨i + 1, HI.out, by go_num, b2, c1.new c2 (Nat.le_refl _)⟩, HJ.out⟩
    · have h9 : i = m := by omega
      subst h9
      have hI : ¬ (i : Int) < (i : Int) := by omega
      go_wp2_with fail
      have B2 : Blk wr w.heap.size (rL 32 i (gvR (fR (mkS 987)) (fR f) 0)).toArray 24 := b0.to (congrArg List.toArray (rL_congr fun j hj => by unfold gvR1 gvR; rw [if_pos hj, if_neg (by omega)]))
      clear b0
      go_loopw [7] (fun t wr => ∃ k : Nat, k ≤ n ∧ t = .int .i64 (k : Int) ∧ Blk wr w.heap.size (rL 32 i (gvR (fR (mkS 987)) (fR f) k)).toArray 24 ∧ Chg w wr []) (fun t _ => ((n : Int) - intOf t).toNat)
      case atStart => exact ⟨0, by omega, rfl, B2, c0⟩
      case round =>
        clear B2 c0
        obtain ⟨k, hk, rfl, b0, c0⟩ := hrel
        by_cases h8 : k < n
        · have hI1 : (k : Int) < (n : Int) := by omega
          have hI2 : (k : Int) < (i : Int) := by omega
          have HK1 : Hid (k + 1 ≤ n) := by show k + 1 ≤ n; omega
          have e2 : IntKind.i64.wrap ((k : Int) + 1) = (k : Int) + 1 := by rw [IntKind.wrap_i64]; omega
          have HJ : Hid (((n : Int) - intOf (.int .i64 ((k : Int) + 1))).toNat < ((n : Int) - intOf (.int .i64 (k : Int))).toNat) := by show ((n : Int) - intOf (.int .i64 ((k : Int) + 1))).toNat < ((n : Int) - intOf (.int .i64 (k : Int))).toNat; simp [intOf]; omega
          obtain ⟨g, o, rfl, hgl, hr0⟩ := hp k h8
          have hr := rangeAt_chg hr0 hgl c0 (by simp)
          have HO : Hid (Rok 32 i (gvR (fR (mkS 987)) (fR f) k)) := gvR_ok mk_ok (fR_ok n f) k (by omega)
          have HKI : Hid (k < i) := by show k < i; omega
          obtain ⟨X, hX⟩ : ∃ X : Int, ((f k : Nat) : Int) = X := ⟨_, rfl⟩
          have eX : fR f k = feL X := by show feL _ = _; rw [hX]
          rw [eX] at hr
          have HF : Hid (upR (gvR (fR (mkS 987)) (fR f) k) k (feL X) = gvR (fR (mkS 987)) (fR f) (k + 1)) := by rw [← eX]; exact gvR_step _ _ _
          have HR : Hid _ := hr
          clear h8 hk hp hr0 hv hnm hmb eX hX hr hg hbase hK HM
          generalize gvR (fR (mkS 987)) (fR f) k = R0 at *
          go_wp2_with (first
            | (with_reducible refine load_fe ?_ (.tmp 33) ?_ g (o + k * 32) X ?_ ?_ ?_
               · rfl
               · rfl
               · rfl
               · exact HR.out)
            | (with_reducible refine wpList_store_rw ?_ 24 (.tmp 35) (.tmp 34) ?_ w.heap.size 32 i k R0 (feL X) 24 ?_ ?_ b0 HO.out HKI.out (feL_ok X).1 (feL_ok X).2 feInfo ?_
               · rfl
               · rfl
               · rfl
               · rfl
               intro w2 b2 c2
               rw [HF.out] at b2))
          exact ⟨⟨k + 1, HK1.out, by go_num, b2, c0.new c2 (Nat.le_refl _)⟩, HJ.out⟩
        · have h9 : k = n := by omega
          subst h9
          have hI1 : ¬ (k : Int) < (k : Int) := by omega
          obtain ⟨y, hy⟩ : ∃ y, w.heap.size = y := ⟨_, rfl⟩
          have HY : Hid (w.heap.size = y) := hy
          obtain ⟨RR, hRR⟩ : ∃ RR, gvR (fR (mkS 987)) (fR f) k = RR := ⟨_, rfl⟩
          have HRR : Hid (gvR (fR (mkS 987)) (fR f) k = RR) := hRR
          have HOK : Hid (Rok 32 i RR) := hRR ▸ gvR_ok mk_ok (fR_ok k f) k (Nat.le_refl _)
          have BO : Blk wr y (rL 32 i RR).toArray 24 := hRR ▸ hy ▸ b0
          have HCW : Hid (Chg w wr []) := c0
          have HG1 : Hid (Gv wr gb base G 8 42 22 24 32 Kn N F) := hg.chg c0
          have hg1 := HG1.out
          have ybs : base ≤ wr.heap.size := Nat.le_trans hbase c0.size
          obtain ⟨vs, us, l1, l2, hd, hj⟩ := hg1.lists
          have HJ : Hid (∀ j, j < Kn → ∃ o x, vs[j]? = some (.slice (some ⟨o, 0, none⟩) (N j) (N j)) ∧ us[j]? = some x ∧ N j ≤ 9223372036854775807 ∧ Blk wr o (rL 32 (N j) (F j)).toArray 24 ∧ OwnR wr base 24 32 x (N j) (F j)) := hj
          have HL1 : Hid (wr.ownsRow base 22 1 (G 8) Kn vs) := l1
          have HL2 : Hid (wr.ownsRow base 22 1 (G (8 + 1)) Kn us) := l2
          have g8 : ¬ gb ∈ ob (G 8) := fun hx => by obtain ⟨C, hC⟩ := ownsRow_blk l1 hx; exact hg1.gb.ne hC (by decide) rfl
          have g9 : ¬ gb ∈ ob (G (8 + 1)) := fun hx => by obtain ⟨C, hC⟩ := ownsRow_blk l2 hx; exact hg1.gb.ne hC (by decide) rfl
          have y8 : ¬ y ∈ ob (G 8) := fun hx => by obtain ⟨C, hC⟩ := ownsRow_blk l1 hx; exact BO.ne hC (by decide) rfl
          have y9 : ¬ y ∈ ob (G (8 + 1)) := fun hx => by obtain ⟨C, hC⟩ := ownsRow_blk l2 hx; exact BO.ne hC (by decide) rfl
          have yg : ¬ y = gb := BO.ne hg1.gb (by decide)
          have HCH : Hid (gch gb G 8 = gb :: (ob (G 8) ++ ob (G (8 + 1)))) := rfl
          have GB00 := hg1.gb
          obtain ⟨la0, hla0⟩ : ∃ v, G 8 = v := ⟨_, rfl⟩
          obtain ⟨lb0, hlb0⟩ : ∃ v, G (8 + 1) = v := ⟨_, rfl⟩
          rw [hla0] at g8 y8 l1 hd
          rw [hlb0] at g9 y9 l2 hd
          have cg0 : wr.cell? ⟨gb, 8, none⟩ = some la0 := by rw [GB00.cell, gvC_get _ _ (by decide), hla0]
          have HLA0 : Hid (G 8 = la0) := hla0
          have HLB0 : Hid (G (8 + 1) = lb0) := hlb0
          rw [hy]
          have HI0 : Hid (0 < i) := by show 0 < i; omega
          have HIM : Hid (i ≤ 4398046511104) := by show i ≤ 4398046511104; omega
          have hki : (k : Int) ≤ (i : Int) := by omega
          obtain ⟨inf, hinf, hz, hs1, hs2⟩ := listRowS
          have AL := Blk.new wr #[.slice (some ⟨y, 0, none⟩) i i] 22
          have HNW : Hid (∀ j u, ([.slice (some ⟨y, 0, none⟩) i i] : List Value)[j]? = some u → (wr.alloc (.cells #[.slice (some ⟨y, 0, none⟩) i i] 22)).cell? ((⟨wr.heap.size, 0, none⟩ : Addr).add j) = some u) := by
            intro j u hj
            refine add_cell ?_
            rw [Nat.zero_add, AL.cell]
            simpa using hj
          have HLA : Hid ((wr.alloc (.cells #[.slice (some ⟨y, 0, none⟩) i i] 22)).ownsRow base 22 1 la0 Kn vs) := l1.alloc _
          have H63 : Hid (Kn + 1 ≤ maxLen) := by show Kn + 1 ≤ maxLen; simp only [maxLen]; omega
          have HBY : Hid ((Kn + 1) * 24 ≤ 140737488355328) := by show (Kn + 1) * 24 ≤ 140737488355328; omega
          have HBA : Hid (base ≤ (wr.alloc (.cells #[.slice (some ⟨y, 0, none⟩) i i] 22)).heap.size) := by show base ≤ _; simp; omega
          have HON : Hid (∀ u ∈ ([.slice (some ⟨y, 0, none⟩) i i] : List Value), u.oneCell' = true) := by show ∀ u ∈ ([.slice (some ⟨y, 0, none⟩) i i] : List Value), u.oneCell' = true; simp [Value.oneCell']
          have GA := GB00.alloc (.cells #[.slice (some ⟨y, 0, none⟩) i i] 22)
          have BA := BO.alloc (.cells #[.slice (some ⟨y, 0, none⟩) i i] 22)
          have LB1 := l2.alloc (.cells #[.slice (some ⟨y, 0, none⟩) i i] 22)
          have HD0 : Hid (∀ x, x ∈ ob la0 → ¬ x ∈ ob lb0) := hd
          have HLT : Hid (∀ x, x ∈ ob lb0 → x < wr.heap.size) := fun x hx => by obtain ⟨C, hC⟩ := ownsRow_blk l2 hx; exact hC.lt
          have CA := (Chg.refl wr (gch gb G 8)).alloc (.cells #[.slice (some ⟨y, 0, none⟩) i i] 22)
          have HIN : Hid (∀ x, x ∈ ob la0 → x ∈ gch gb G 8) := fun x hx => by rw [HCH.out, hla0]; simp [hx]
          have HIN9 : Hid (∀ x, x ∈ gb :: ob lb0 → x ∈ gch gb G 8) := fun x hx => by rw [HCH.out, hlb0]; simp only [List.mem_cons, List.mem_append] at hx ⊢; rcases hx with h | h <;> simp [h]
          have HGI : Hid (gb ∈ gch gb G 8) := List.mem_cons_self
          have wasz : (wr.alloc (.cells #[.slice (some ⟨y, 0, none⟩) i i] 22)).heap.size = wr.heap.size + 1 := by simp
          clear hy hRR b0 hv hp hg hj hd AL l1 l2 BO hg1 GB00 c0 hla0 hlb0 hnm hmb hk h8 hK
          go_wp2_with (with_reducible refine wpList_append_lies _ ?_ (.tmp 40) (.tmp 42) 30 ?_ base 22 inf (.slice none 0 0) 1 24 Tryz.underlying30 hinf hz hs1 hs2 ?_ ?_ la0 Kn vs ?_ HLA.out ⟨wr.heap.size, 0, none⟩ 1 1 [.slice (some ⟨y, 0, none⟩) i i] ?_ ?_ HNW.out HON.out ?_ H63.out HBY.out HBA.out (wr.heap.size + 1) ?_ ?_
                       · rfl
                       · rfl
                       · rfl
                       · decide
                       · rfl
                       · rfl
                       · rfl
                       · decide
                       · exact wasz
                       intro lg lc w1 O1 G1 hat hlt
                       replace G1 := Chg.grown G1
                       have GB0 := GA.chg G1 g8
                       have cgb : w1.cell? ⟨gb, 8, none⟩ = some la0 := by rw [GB0.cell, gvC_get _ _ (by decide)]; exact congrArg some HLA0.out
                       have fgb := GB0.frozen 8)
          have lgg : ¬ lg = gb := by obtain ⟨C, hC⟩ := ownsRow_blk O1 (k := lg) (by rw [ob_slice]; simp); exact hC.ne GB0 (by decide)
          have DJ : ¬ lg ∈ ob lb0 := by
            rcases hat with h | h
            · exact HD0.out lg (by simp [ob, h])
            · intro hx
              have := HLT.out lg hx
              omega
          have GB := (GB0.setCell 8 (.slice (some ⟨lg, 0, none⟩) (Kn + 1) lc)).to (gvC_set _ _ _)
          have BO1 := (BA.chg G1 y8).setOther yg 8 (.slice (some ⟨lg, 0, none⟩) (Kn + 1) lc)
          have SV := (Chg.refl w1 [gb]).setIn (k := gb) (by simp) 8 (.slice (some ⟨lg, 0, none⟩) (Kn + 1) lc)
          have LA1 := ownsRow_chg O1 SV (by rw [ob_slice]; simpa using lgg)
          have LB2 := ownsRow_chg (ownsRow_chg LB1 G1 (fun x hx hx' => HD0.out x hx' hx)) SV (fun x hx he => g9 (by simp at he; exact he ▸ hx))
          have CV := (CA.trans G1 (fun x hx => Or.inl (HIN.out x hx))).setIn HGI.out 8 (.slice (some ⟨lg, 0, none⟩) (Kn + 1) lc)
          have bV : base ≤ (w1.setCell ⟨gb, 8, none⟩ (.slice (some ⟨lg, 0, none⟩) (Kn + 1) lc)).heap.size := Nat.le_trans ybs CV.size
          clear SV cgb fgb GB0 O1 G1 GA BA LB1 CA HLA HNW HON HBA wasz cg0 hat hlt HD0 HLT HIN
          generalize w1.setCell ⟨gb, 8, none⟩ (.slice (some ⟨lg, 0, none⟩) (Kn + 1) lc) = V at *
          have HBV : Hid (base ≤ V.heap.size) := bV
          refine wp_region_held_drew (S := fun w' => Chg V w' (gb :: ob lb0)) (by kernel_rfl) ((Chg.refl V _).drew) (fun hHeld => ?_)
          replace GB := GB.drew
          replace BO1 := BO1.drew
          replace LA1 := ownsRow_chg LA1 ((Chg.refl V []).drew) (by simp)
          replace LB2 := ownsRow_chg LB2 ((Chg.refl V []).drew) (by simp)
          refine take_val (v := ?_) 0 (some 46) rfl (by kernel_rfl) (by kernel_rfl) (by kernel_rfl) (fun _ _ _ h => h) rfl rfl (fun w hSw => ?_) hHeld ?_
          rotate_left
          · (go_simp; try with_reducible rfl)
          try simp only [Act.put, List.setIfInBounds_toArray, List.set_cons_zero, List.set_cons_succ]
          refine take_val (v := ?_) 1 (some 47) rfl (by kernel_rfl) (by kernel_rfl) (by kernel_rfl) (fun _ _ _ h => h) rfl rfl (fun w hSw => ?_) hHeld ?_
          rotate_left
          · (go_simp; try with_reducible rfl)
          try simp only [Act.put, List.setIfInBounds_toArray, List.set_cons_zero, List.set_cons_succ]
          refine take_val (v := ?_) 2 (some 48) rfl (by kernel_rfl) (by kernel_rfl) (by kernel_rfl) (fun _ _ _ h => h) rfl rfl (fun w hSw => ?_) hHeld ?_
          rotate_left
          · (go_simp; try with_reducible rfl)
          try simp only [Act.put, List.setIfInBounds_toArray, List.set_cons_zero, List.set_cons_succ]
          refine take_val (v := ?_) 3 (some 49) rfl (by kernel_rfl) (by kernel_rfl) (by kernel_rfl) (fun _ _ _ h => h) rfl rfl (fun w hSw => ?_) hHeld ?_
          rotate_left
          · (go_simp; try with_reducible rfl)
          try simp only [Act.put, List.setIfInBounds_toArray, List.set_cons_zero, List.set_cons_succ]
          refine take_val (v := ?_) 5 (some 51) rfl (by kernel_rfl) (by kernel_rfl) (by kernel_rfl) (fun _ _ _ h => h) rfl rfl (fun w hSw => ?_) hHeld ?_
          rotate_left
          · (go_simp; try with_reducible rfl)
          try simp only [Act.put, List.setIfInBounds_toArray, List.set_cons_zero, List.set_cons_succ]
          refine wpAnyH_ready (rs := [4, 6]) (by kernel_rfl) (by simp) ?_
          refine AllReadyH.cons (o := _) rfl (fun K hK => ?_) ?_
          ·
            have cg := GB.cell 9
            rw [gvC_get _ _ (by decide), upV_other _ _ _ _ (by decide), show G 9 = lb0 from HLB0.out] at cg
            rw [if_pos (by rfl)]
            go_simp
            refine hK.out _ _ (hHeld) (fun hHeld => ?_)
            clear hK K
            try simp only [Act.put, List.setIfInBounds_toArray, List.set_cons_zero, List.set_cons_succ]
            refine wpAnyH_ready (rs := [6]) (by kernel_rfl) (by simp) ?_
            refine AllReadyH.cons (o := _) rfl (fun K hK => ?_) ?_
            ·
              go_simp
              refine (CopyScalars_s (.slice (some ⟨y, 0, none⟩) i i) i RR _ HI0.out HIM.out ⟨HOK.out, Or.inr ⟨y, 0, i, rfl, Nat.le_refl _, by have := HIM.out; omega, BO1.lt, fun j hj => by rw [Nat.zero_add]; exact BO1.rangeRw HOK.out hj⟩⟩).mono ?_
              rintro e v7 ⟨xg, xc, rfl, OX, k7⟩
              go_wp2_with fail
              refine hK.out _ _ (hHeld.trans1 k7.wide) (fun hHeld => ?_)
              clear hK K
              try simp only [Act.put, List.setIfInBounds_toArray, List.set_cons_zero, List.set_cons_succ]
              replace GB := GB.chg k7 (by simp)
              replace BO1 := BO1.chg k7 (by simp)
              replace LA1 := ownsRow_chg LA1 k7 (by simp)
              replace LB2 := ownsRow_chg LB2 k7 (by simp)
              have bv7 : base ≤ v7.heap.size := Nat.le_trans HBV.out k7.size
              have lglt : lg < v7.heap.size := by obtain ⟨C, hC⟩ := ownsRow_blk LA1 (k := lg) (by rw [ob_slice]; simp); exact hC.lt
              have xg9 : ¬ xg ∈ ob lb0 := fun hx => by obtain ⟨C, hC⟩ := ownsRow_blk LB2 hx; obtain ⟨D, hD⟩ := ownR_blk OX (k := xg) (by rw [ob_slice]; simp); exact hD.ne hC (by decide) rfl
              have xgg : ¬ xg = gb := by obtain ⟨D, hD⟩ := ownR_blk OX (k := xg) (by rw [ob_slice]; simp); exact hD.ne GB (by decide)
              clear k7
              refine wpAnyH_ready (rs := [7]) (by kernel_rfl) (by simp) ?_
              refine AllReadyH.cons (o := _) rfl (fun K hK => ?_) ?_
              ·
                rw [if_pos (by rfl)]
                go_simp
                refine hK.out _ _ (hHeld.alloc _) (fun hHeld => ?_)
                clear hK K
                try simp only [Act.put, List.setIfInBounds_toArray, List.set_cons_zero, List.set_cons_succ]
                have AL := Blk.new v7 #[.slice (some ⟨xg, 0, none⟩) i xc] 22
                replace GB := GB.alloc (.cells #[.slice (some ⟨xg, 0, none⟩) i xc] 22)
                replace BO1 := BO1.alloc (.cells #[.slice (some ⟨xg, 0, none⟩) i xc] 22)
                replace LA1 := LA1.alloc (.cells #[.slice (some ⟨xg, 0, none⟩) i xc] 22)
                replace LB2 := LB2.alloc (.cells #[.slice (some ⟨xg, 0, none⟩) i xc] 22)
                replace OX := OX.chg ((Chg.refl v7 []).alloc (.cells #[.slice (some ⟨xg, 0, none⟩) i xc] 22)) (by simp)
                refine wpAnyH_ready (rs := [8]) (by kernel_rfl) (by simp) ?_
                refine AllReadyH.cons (o := _) rfl (fun K hK => ?_) ?_
                ·
                  rw [if_pos (by rfl)]
                  refine wp_append_lies _ (.tmp 50) (.tmp 53) 30 rfl base 22 inf (.slice none 0 0) 1 24 Tryz.underlying30 hinf hz hs1 hs2 rfl (by decide) lb0 Kn us rfl LB2 ⟨v7.heap.size, 0, none⟩ 1 1 [.slice (some ⟨xg, 0, none⟩) i xc] rfl rfl (fun j u hj => add_cell (by rw [Nat.zero_add, AL.cell]; simpa using hj)) (by simp [Value.oneCell']) (by decide) H63.out HBY.out (by simp; omega) (v7.heap.size + 1) (by simp) ?_
                  intro mg mc w8 O8 G8 hat8 hlt8
                  replace G8 := Chg.grown G8
                  have DJ2 : ¬ lg = mg := by
                    rcases hat8 with h | h
                    · intro e; exact DJ (by simp [ob, h, e])
                    · omega
                  refine hK.out _ _ (hHeld.trans1 (G8.incl (fun x hx => List.mem_cons_of_mem _ hx))) (fun hHeld => ?_)
                  clear hK K
                  try simp only [Act.put, List.setIfInBounds_toArray, List.set_cons_zero, List.set_cons_succ]
                  replace GB := GB.chg G8 g9
                  replace BO1 := BO1.chg G8 y9
                  replace LA1 := ownsRow_chg LA1 G8 (by rw [ob_slice]; simpa using DJ)
                  replace OX := OX.chg G8 (by rw [ob_slice]; simpa using xg9)
                  have mgg : ¬ mg = gb := by obtain ⟨C, hC⟩ := ownsRow_blk O8 (k := mg) (by rw [ob_slice]; simp); exact hC.ne GB (by decide)
                  clear G8 AL hat8 hlt8 LB2
                  refine take_val (v := ?_) 9 (some 55) rfl (by kernel_rfl) (by kernel_rfl) (by kernel_rfl) (fun _ _ _ h => h) rfl rfl (fun w hSw => ?_) hHeld ?_
                  rotate_left
                  · (go_simp; try with_reducible rfl)
                  try simp only [Act.put, List.setIfInBounds_toArray, List.set_cons_zero, List.set_cons_succ]
                  refine take_val (v := ?_) 10 (some 56) rfl (by kernel_rfl) (by kernel_rfl) (by kernel_rfl) (fun _ _ _ h => h) rfl rfl (fun w hSw => ?_) hHeld ?_
                  rotate_left
                  · (go_simp; try with_reducible rfl)
                  try simp only [Act.put, List.setIfInBounds_toArray, List.set_cons_zero, List.set_cons_succ]
                  refine wpAnyH_ready (rs := [11]) (by kernel_rfl) (by simp) ?_
                  refine AllReadyH.cons (o := _) rfl (fun K hK => ?_) ?_
                  ·
                    have cg := GB.cell 9
                    rw [gvC_get _ _ (by decide), upV_other _ _ _ _ (by decide), show G 9 = lb0 from HLB0.out] at cg
                    have fg := GB.frozen 9
                    rw [if_pos (by rfl)]
                    go_simp
                    refine hK.out _ _ (hHeld.setIn (by simp) _ _) (fun hHeld => ?_)
                    clear hK K
                    try simp only [Act.put, List.setIfInBounds_toArray, List.set_cons_zero, List.set_cons_succ]
                    refine wpAnyH_done (by kernel_rfl) ?_ _
                    have GB2 := (GB.setCell 9 (.slice (some ⟨mg, 0, none⟩) (Kn + 1) mc)).to (gvC_set _ _ _)
                    have SC := (Chg.refl w8 [gb]).setIn (k := gb) (by simp) 9 (.slice (some ⟨mg, 0, none⟩) (Kn + 1) mc)
                    have BO2 := BO1.chg SC (by simpa using yg)
                    have LA2 := ownsRow_chg LA1 SC (by rw [ob_slice]; simpa using lgg)
                    have LB3 := ownsRow_chg O8 SC (by rw [ob_slice]; simpa using mgg)
                    have OX2 := OX.chg SC (by rw [ob_slice]; simpa using xgg)
                    have C9 := CV.trans hHeld (fun x hx => Or.inl (HIN9.out x hx))
                    clear hHeld SC
                    go_wp2_with fail
                    go_ret
                    refine ⟨_, rfl, y, .slice (some ⟨lg, 0, none⟩) (Kn + 1) lc, .slice (some ⟨mg, 0, none⟩) (Kn + 1) mc, rfl, by rw [show w.heap.size = y from HY.out]; exact Nat.le_refl _, (HCW.out.wide).trans1 C9, by rw [show gvR (fR (mkS 987)) (fR f) k = RR from HRR.out]; exact BO2, ?_⟩
                    rw [show gvR (fR (mkS 987)) (fR f) k = RR from HRR.out]
                    exact Gv.more HG1.out (by decide) (by decide) C9 HL1.out HL2.out HJ.out GB2 LA2 LB3 (by rw [ob_slice, ob_slice]; intro x hx hx'; simp at hx hx'; exact DJ2 (hx.symm.trans hx')) (by have := HIM.out; omega) BO2 ⟨ownsRow_base OX2.1 HBV.out, OX2.2⟩
                  exact AllReadyH.nil
                exact AllReadyH.nil
              exact AllReadyH.nil
            exact AllReadyH.nil
          refine AllReadyH.cons (o := _) rfl (fun K hK => ?_) ?_
          ·
            go_simp
            refine (CopyScalars_s (.slice (some ⟨y, 0, none⟩) i i) i RR _ HI0.out HIM.out ⟨HOK.out, Or.inr ⟨y, 0, i, rfl, Nat.le_refl _, by have := HIM.out; omega, BO1.lt, fun j hj => by rw [Nat.zero_add]; exact BO1.rangeRw HOK.out hj⟩⟩).mono ?_
            rintro e v7 ⟨xg, xc, rfl, OX, k7⟩
            go_wp2_with fail
            refine hK.out _ _ (hHeld.trans1 k7.wide) (fun hHeld => ?_)
            clear hK K
            try simp only [Act.put, List.setIfInBounds_toArray, List.set_cons_zero, List.set_cons_succ]
            replace GB := GB.chg k7 (by simp)
            replace BO1 := BO1.chg k7 (by simp)
            replace LA1 := ownsRow_chg LA1 k7 (by simp)
            replace LB2 := ownsRow_chg LB2 k7 (by simp)
            have bv7 : base ≤ v7.heap.size := Nat.le_trans HBV.out k7.size
            have lglt : lg < v7.heap.size := by obtain ⟨C, hC⟩ := ownsRow_blk LA1 (k := lg) (by rw [ob_slice]; simp); exact hC.lt
            have xg9 : ¬ xg ∈ ob lb0 := fun hx => by obtain ⟨C, hC⟩ := ownsRow_blk LB2 hx; obtain ⟨D, hD⟩ := ownR_blk OX (k := xg) (by rw [ob_slice]; simp); exact hD.ne hC (by decide) rfl
            have xgg : ¬ xg = gb := by obtain ⟨D, hD⟩ := ownR_blk OX (k := xg) (by rw [ob_slice]; simp); exact hD.ne GB (by decide)
            clear k7
            refine wpAnyH_ready (rs := [4, 7]) (by kernel_rfl) (by simp) ?_
            refine AllReadyH.cons (o := _) rfl (fun K hK => ?_) ?_
            ·
              have cg := GB.cell 9
              rw [gvC_get _ _ (by decide), upV_other _ _ _ _ (by decide), show G 9 = lb0 from HLB0.out] at cg
              rw [if_pos (by rfl)]
              go_simp
              refine hK.out _ _ (hHeld) (fun hHeld => ?_)
              clear hK K
              try simp only [Act.put, List.setIfInBounds_toArray, List.set_cons_zero, List.set_cons_succ]
              refine wpAnyH_ready (rs := [7]) (by kernel_rfl) (by simp) ?_
              refine AllReadyH.cons (o := _) rfl (fun K hK => ?_) ?_
              ·
                rw [if_pos (by rfl)]
                go_simp
                refine hK.out _ _ (hHeld.alloc _) (fun hHeld => ?_)
                clear hK K
                try simp only [Act.put, List.setIfInBounds_toArray, List.set_cons_zero, List.set_cons_succ]
                have AL := Blk.new v7 #[.slice (some ⟨xg, 0, none⟩) i xc] 22
                replace GB := GB.alloc (.cells #[.slice (some ⟨xg, 0, none⟩) i xc] 22)
                replace BO1 := BO1.alloc (.cells #[.slice (some ⟨xg, 0, none⟩) i xc] 22)
                replace LA1 := LA1.alloc (.cells #[.slice (some ⟨xg, 0, none⟩) i xc] 22)
                replace LB2 := LB2.alloc (.cells #[.slice (some ⟨xg, 0, none⟩) i xc] 22)
                replace OX := OX.chg ((Chg.refl v7 []).alloc (.cells #[.slice (some ⟨xg, 0, none⟩) i xc] 22)) (by simp)
                refine wpAnyH_ready (rs := [8]) (by kernel_rfl) (by simp) ?_
                refine AllReadyH.cons (o := _) rfl (fun K hK => ?_) ?_
                ·
                  rw [if_pos (by rfl)]
                  refine wp_append_lies _ (.tmp 50) (.tmp 53) 30 rfl base 22 inf (.slice none 0 0) 1 24 Tryz.underlying30 hinf hz hs1 hs2 rfl (by decide) lb0 Kn us rfl LB2 ⟨v7.heap.size, 0, none⟩ 1 1 [.slice (some ⟨xg, 0, none⟩) i xc] rfl rfl (fun j u hj => add_cell (by rw [Nat.zero_add, AL.cell]; simpa using hj)) (by simp [Value.oneCell']) (by decide) H63.out HBY.out (by simp; omega) (v7.heap.size + 1) (by simp) ?_
                  intro mg mc w8 O8 G8 hat8 hlt8
                  replace G8 := Chg.grown G8
                  have DJ2 : ¬ lg = mg := by
                    rcases hat8 with h | h
                    · intro e; exact DJ (by simp [ob, h, e])
                    · omega
                  refine hK.out _ _ (hHeld.trans1 (G8.incl (fun x hx => List.mem_cons_of_mem _ hx))) (fun hHeld => ?_)
                  clear hK K
                  try simp only [Act.put, List.setIfInBounds_toArray, List.set_cons_zero, List.set_cons_succ]
                  replace GB := GB.chg G8 g9
                  replace BO1 := BO1.chg G8 y9
                  replace LA1 := ownsRow_chg LA1 G8 (by rw [ob_slice]; simpa using DJ)
                  replace OX := OX.chg G8 (by rw [ob_slice]; simpa using xg9)
                  have mgg : ¬ mg = gb := by obtain ⟨C, hC⟩ := ownsRow_blk O8 (k := mg) (by rw [ob_slice]; simp); exact hC.ne GB (by decide)
                  clear G8 AL hat8 hlt8 LB2
                  refine take_val (v := ?_) 9 (some 55) rfl (by kernel_rfl) (by kernel_rfl) (by kernel_rfl) (fun _ _ _ h => h) rfl rfl (fun w hSw => ?_) hHeld ?_
                  rotate_left
                  · (go_simp; try with_reducible rfl)
                  try simp only [Act.put, List.setIfInBounds_toArray, List.set_cons_zero, List.set_cons_succ]
                  refine take_val (v := ?_) 10 (some 56) rfl (by kernel_rfl) (by kernel_rfl) (by kernel_rfl) (fun _ _ _ h => h) rfl rfl (fun w hSw => ?_) hHeld ?_
                  rotate_left
                  · (go_simp; try with_reducible rfl)
                  try simp only [Act.put, List.setIfInBounds_toArray, List.set_cons_zero, List.set_cons_succ]
                  refine wpAnyH_ready (rs := [11]) (by kernel_rfl) (by simp) ?_
                  refine AllReadyH.cons (o := _) rfl (fun K hK => ?_) ?_
                  ·
                    have cg := GB.cell 9
                    rw [gvC_get _ _ (by decide), upV_other _ _ _ _ (by decide), show G 9 = lb0 from HLB0.out] at cg
                    have fg := GB.frozen 9
                    rw [if_pos (by rfl)]
                    go_simp
                    refine hK.out _ _ (hHeld.setIn (by simp) _ _) (fun hHeld => ?_)
                    clear hK K
                    try simp only [Act.put, List.setIfInBounds_toArray, List.set_cons_zero, List.set_cons_succ]
                    refine wpAnyH_done (by kernel_rfl) ?_ _
                    have GB2 := (GB.setCell 9 (.slice (some ⟨mg, 0, none⟩) (Kn + 1) mc)).to (gvC_set _ _ _)
                    have SC := (Chg.refl w8 [gb]).setIn (k := gb) (by simp) 9 (.slice (some ⟨mg, 0, none⟩) (Kn + 1) mc)
                    have BO2 := BO1.chg SC (by simpa using yg)
                    have LA2 := ownsRow_chg LA1 SC (by rw [ob_slice]; simpa using lgg)
                    have LB3 := ownsRow_chg O8 SC (by rw [ob_slice]; simpa using mgg)
                    have OX2 := OX.chg SC (by rw [ob_slice]; simpa using xgg)
                    have C9 := CV.trans hHeld (fun x hx => Or.inl (HIN9.out x hx))
                    clear hHeld SC
                    go_wp2_with fail
                    go_ret
                    refine ⟨_, rfl, y, .slice (some ⟨lg, 0, none⟩) (Kn + 1) lc, .slice (some ⟨mg, 0, none⟩) (Kn + 1) mc, rfl, by rw [show w.heap.size = y from HY.out]; exact Nat.le_refl _, (HCW.out.wide).trans1 C9, by rw [show gvR (fR (mkS 987)) (fR f) k = RR from HRR.out]; exact BO2, ?_⟩
                    rw [show gvR (fR (mkS 987)) (fR f) k = RR from HRR.out]
                    exact Gv.more HG1.out (by decide) (by decide) C9 HL1.out HL2.out HJ.out GB2 LA2 LB3 (by rw [ob_slice, ob_slice]; intro x hx hx'; simp at hx hx'; exact DJ2 (hx.symm.trans hx')) (by have := HIM.out; omega) BO2 ⟨ownsRow_base OX2.1 HBV.out, OX2.2⟩
                  exact AllReadyH.nil
                exact AllReadyH.nil
              exact AllReadyH.nil
            refine AllReadyH.cons (o := _) rfl (fun K hK => ?_) ?_
            ·
              rw [if_pos (by rfl)]
              go_simp
              refine hK.out _ _ (hHeld.alloc _) (fun hHeld => ?_)
              clear hK K
              try simp only [Act.put, List.setIfInBounds_toArray, List.set_cons_zero, List.set_cons_succ]
              have AL := Blk.new v7 #[.slice (some ⟨xg, 0, none⟩) i xc] 22
              replace GB := GB.alloc (.cells #[.slice (some ⟨xg, 0, none⟩) i xc] 22)
              replace BO1 := BO1.alloc (.cells #[.slice (some ⟨xg, 0, none⟩) i xc] 22)
              replace LA1 := LA1.alloc (.cells #[.slice (some ⟨xg, 0, none⟩) i xc] 22)
              replace LB2 := LB2.alloc (.cells #[.slice (some ⟨xg, 0, none⟩) i xc] 22)
              replace OX := OX.chg ((Chg.refl v7 []).alloc (.cells #[.slice (some ⟨xg, 0, none⟩) i xc] 22)) (by simp)
              refine wpAnyH_ready (rs := [4]) (by kernel_rfl) (by simp) ?_
              refine AllReadyH.cons (o := _) rfl (fun K hK => ?_) ?_
              ·
                have cg := GB.cell 9
                rw [gvC_get _ _ (by decide), upV_other _ _ _ _ (by decide), show G 9 = lb0 from HLB0.out] at cg
                rw [if_pos (by rfl)]
                go_simp
                refine hK.out _ _ (hHeld) (fun hHeld => ?_)
                clear hK K
                try simp only [Act.put, List.setIfInBounds_toArray, List.set_cons_zero, List.set_cons_succ]
                refine wpAnyH_ready (rs := [8]) (by kernel_rfl) (by simp) ?_
                refine AllReadyH.cons (o := _) rfl (fun K hK => ?_) ?_
                ·
                  rw [if_pos (by rfl)]
                  refine wp_append_lies _ (.tmp 50) (.tmp 53) 30 rfl base 22 inf (.slice none 0 0) 1 24 Tryz.underlying30 hinf hz hs1 hs2 rfl (by decide) lb0 Kn us rfl LB2 ⟨v7.heap.size, 0, none⟩ 1 1 [.slice (some ⟨xg, 0, none⟩) i xc] rfl rfl (fun j u hj => add_cell (by rw [Nat.zero_add, AL.cell]; simpa using hj)) (by simp [Value.oneCell']) (by decide) H63.out HBY.out (by simp; omega) (v7.heap.size + 1) (by simp) ?_
                  intro mg mc w8 O8 G8 hat8 hlt8
                  replace G8 := Chg.grown G8
                  have DJ2 : ¬ lg = mg := by
                    rcases hat8 with h | h
                    · intro e; exact DJ (by simp [ob, h, e])
                    · omega
                  refine hK.out _ _ (hHeld.trans1 (G8.incl (fun x hx => List.mem_cons_of_mem _ hx))) (fun hHeld => ?_)
                  clear hK K
                  try simp only [Act.put, List.setIfInBounds_toArray, List.set_cons_zero, List.set_cons_succ]
                  replace GB := GB.chg G8 g9
                  replace BO1 := BO1.chg G8 y9
                  replace LA1 := ownsRow_chg LA1 G8 (by rw [ob_slice]; simpa using DJ)
                  replace OX := OX.chg G8 (by rw [ob_slice]; simpa using xg9)
                  have mgg : ¬ mg = gb := by obtain ⟨C, hC⟩ := ownsRow_blk O8 (k := mg) (by rw [ob_slice]; simp); exact hC.ne GB (by decide)
                  clear G8 AL hat8 hlt8 LB2
                  refine take_val (v := ?_) 9 (some 55) rfl (by kernel_rfl) (by kernel_rfl) (by kernel_rfl) (fun _ _ _ h => h) rfl rfl (fun w hSw => ?_) hHeld ?_
                  rotate_left
                  · (go_simp; try with_reducible rfl)
                  try simp only [Act.put, List.setIfInBounds_toArray, List.set_cons_zero, List.set_cons_succ]
                  refine take_val (v := ?_) 10 (some 56) rfl (by kernel_rfl) (by kernel_rfl) (by kernel_rfl) (fun _ _ _ h => h) rfl rfl (fun w hSw => ?_) hHeld ?_
                  rotate_left
                  · (go_simp; try with_reducible rfl)
                  try simp only [Act.put, List.setIfInBounds_toArray, List.set_cons_zero, List.set_cons_succ]
                  refine wpAnyH_ready (rs := [11]) (by kernel_rfl) (by simp) ?_
                  refine AllReadyH.cons (o := _) rfl (fun K hK => ?_) ?_
                  ·
                    have cg := GB.cell 9
                    rw [gvC_get _ _ (by decide), upV_other _ _ _ _ (by decide), show G 9 = lb0 from HLB0.out] at cg
                    have fg := GB.frozen 9
                    rw [if_pos (by rfl)]
                    go_simp
                    refine hK.out _ _ (hHeld.setIn (by simp) _ _) (fun hHeld => ?_)
                    clear hK K
                    try simp only [Act.put, List.setIfInBounds_toArray, List.set_cons_zero, List.set_cons_succ]
                    refine wpAnyH_done (by kernel_rfl) ?_ _
                    have GB2 := (GB.setCell 9 (.slice (some ⟨mg, 0, none⟩) (Kn + 1) mc)).to (gvC_set _ _ _)
                    have SC := (Chg.refl w8 [gb]).setIn (k := gb) (by simp) 9 (.slice (some ⟨mg, 0, none⟩) (Kn + 1) mc)
                    have BO2 := BO1.chg SC (by simpa using yg)
                    have LA2 := ownsRow_chg LA1 SC (by rw [ob_slice]; simpa using lgg)
                    have LB3 := ownsRow_chg O8 SC (by rw [ob_slice]; simpa using mgg)
                    have OX2 := OX.chg SC (by rw [ob_slice]; simpa using xgg)
                    have C9 := CV.trans hHeld (fun x hx => Or.inl (HIN9.out x hx))
                    clear hHeld SC
                    go_wp2_with fail
                    go_ret
                    refine ⟨_, rfl, y, .slice (some ⟨lg, 0, none⟩) (Kn + 1) lc, .slice (some ⟨mg, 0, none⟩) (Kn + 1) mc, rfl, by rw [show w.heap.size = y from HY.out]; exact Nat.le_refl _, (HCW.out.wide).trans1 C9, by rw [show gvR (fR (mkS 987)) (fR f) k = RR from HRR.out]; exact BO2, ?_⟩
                    rw [show gvR (fR (mkS 987)) (fR f) k = RR from HRR.out]
                    exact Gv.more HG1.out (by decide) (by decide) C9 HL1.out HL2.out HJ.out GB2 LA2 LB3 (by rw [ob_slice, ob_slice]; intro x hx hx'; simp at hx hx'; exact DJ2 (hx.symm.trans hx')) (by have := HIM.out; omega) BO2 ⟨ownsRow_base OX2.1 HBV.out, OX2.2⟩
                  exact AllReadyH.nil
                exact AllReadyH.nil
              exact AllReadyH.nil
            exact AllReadyH.nil
          exact AllReadyH.nil
end Go.Proofs.YtemjpibmefggnaaGreat

/- rimeref02.Sum and Product over lists. -/
set_option linter.unusedVariables false
set_option linter.unusedSimpArgs false
set_option linter.unnecessarySimpa false
namespace Go.Proofs.YtemjpibmefggnaaGreat
open Go.RowKit N

theorem Fc.range {w : World} {g o : Nat} {n : Int} (h : Fc w g o n) : w.rangeAt g o (feL n) := fun j v hv => by
  have hj : j < 32 := by
    have := (List.getElem?_eq_some_iff.1 hv).1
    rw [feL_len] at this
    exact this
  rw [h.cell j hj]
  have e := feC_get n j hj
  have e2 : (feC n)[j]? = some v := by
    have h' : (feL n).toArray[j]? = some v := by simpa using hv
    exact h'
  rw [e] at e2
  exact e2
theorem exec_load_mid {P : Program} {op : Oper} {a : Act} (w : World) (ty : TypeId) (x : Operand) (ho : op.op = .load ty x) (b o : Nat) (hx : a.eval x = .pointer (some ⟨b, o, none⟩)) (cs : List Value) (d : TypeDesc) (hc : w.rangeAt b o cs)
    (hu : P.underlying ty = some d) (hd : d.isRow = true) (hi : (P.info? ty).map (·.size) = some cs.length) : (execOp a.eval op).run P w = .ok (.value (.agg cs.toArray)) w := by
  unfold execOp
  simp only [ho, hx, Instr.loadAt, Instr.sureAddr, Sem.run_bind, Sem.run_pure, Result.andThen_ok, run_loadVar_mid w b o ty cs d hc hu hd hi]
theorem sL_q (f : Nat → Nat) (i : Nat) : ad (sL f i % L) ((f i : Nat) : Int) = sL f (i + 1) % L := by
  show (sL f i % L + ((f i : Nat) : Int)) % L = (sL f i + ((f i : Nat) : Int)) % L
  exact m_add_l _ _
theorem pL_q (f : Nat → Nat) (i : Nat) : ml (pL f i % L) ((f i : Nat) : Int) = pL f (i + 1) % L := by
  show (pL f i % L * ((f i : Nat) : Int)) % L = (pL f i * ((f i : Nat) : Int)) % L
  exact m_mul_l _ _
end Go.Proofs.YtemjpibmefggnaaGreat

/- rimeplain.SameScalars of equal lists. -/
set_option linter.unusedVariables false
set_option linter.unusedSimpArgs false
set_option linter.unnecessarySimpa false
namespace Go.Proofs.YtemjpibmefggnaaGreat
open Go.RowKit N

set_option maxHeartbeats 8000000 in
set_option maxRecDepth 100000 in
theorem SameScalars_t (v u : Value) (N : Nat) (f : Nat → Nat) (hN : N ≤ 140737488355328) (w : World) (hL : Ls w v N f) (hU : Ls w u N f) :
    Calls Tryz.prog 24 #[v, u] w fun e w' => e = .returned (.bool true) ∧ Chg w w' [] := by
  have hge := feGuard
  obtain ⟨p, cp, rfl, hp⟩ := hL.form
  obtain ⟨p', cp', rfl, hp'⟩ := hU.form
  go_enter Tryz.func24, Tryz.ntmps24
  go_wp2_with fail
  go_loopw [5] (fun t wr => ∃ i : Nat, i ≤ N ∧ t = .int .i64 (i : Int) ∧ Chg w wr []) (fun t _ => (N - intOf t).toNat)
  case atStart => exact ⟨0, Nat.zero_le _, rfl, Chg.refl _ _⟩
  case round =>
    obtain ⟨i, hi, rfl, cC⟩ := hrel
    by_cases h : i < N
    · have hI : (i : Int) < (N : Int) := by omega
      have hI0 : (0 : Int) ≤ (i : Int) := by omega
      have HM : Hid _ := mN N i h
      have HI1 : Hid (i + 1 ≤ N) := h
      obtain ⟨g, o, rfl, hg, hF⟩ := hp i h
      obtain ⟨g', o', rfl, hg', hG0⟩ := hp' i h
      have hF' := hF.chg cC (by simp)
      have hG' := hG0.chg cC (by simp)
      have z1 : eqf ((f i : Nat) : Int) ((f i : Nat) : Int) = true := eqf_self _
      clear hp hp' h hi hF hg hG0 hg' hL hU
      go_wp2_with fail
      refine wp_region_held_drew (S := fun w' => Chg wr w' []) (by kernel_rfl) ((Chg.refl wr _).drew) (fun hHeld => ?_)
      refine take_val (v := ?_) 0 (some 17) rfl (by kernel_rfl) (by kernel_rfl) (by kernel_rfl) (fun _ _ _ h => h) rfl rfl (fun w hSw => ?_) hHeld ?_
      rotate_left
      · (go_simp; try with_reducible rfl)
      try simp only [Act.put, List.setIfInBounds_toArray, List.set_cons_zero, List.set_cons_succ]
      refine take_val (v := ?_) 1 (some 18) rfl (by kernel_rfl) (by kernel_rfl) (by kernel_rfl) (fun _ _ _ h => h) rfl rfl (fun w hSw => ?_) hHeld ?_
      rotate_left
      · (go_simp; try with_reducible rfl)
      try simp only [Act.put, List.setIfInBounds_toArray, List.set_cons_zero, List.set_cons_succ]
      refine take_val (v := ?_) 2 (some 19) rfl (by kernel_rfl) (by kernel_rfl) (by kernel_rfl) (fun _ _ _ h => h) rfl rfl (fun w hSw => ?_) hHeld ?_
      rotate_left
      · (go_simp; try with_reducible rfl)
      try simp only [Act.put, List.setIfInBounds_toArray, List.set_cons_zero, List.set_cons_succ]
      refine take_val (v := (.agg (feC ((f i : Nat) : Int)))) 3 (some 20) rfl (by kernel_rfl) (by kernel_rfl) (by kernel_rfl) (fun _ _ _ h => h) rfl rfl (fun w hSw => ?_) hHeld ?_
      · exact exec_load_mid w 24 _ rfl g (o + i * 32) rfl (feL ((f i : Nat) : Int)) _ (hF'.chg hSw (by simp)).range Tryz.underlying24 rfl feInfo
      try simp only [Act.put, List.setIfInBounds_toArray, List.set_cons_zero, List.set_cons_succ]
      refine take_val (v := ?_) 4 (some 21) rfl (by kernel_rfl) (by kernel_rfl) (by kernel_rfl) (fun _ _ _ h => h) rfl rfl (fun w hSw => ?_) hHeld ?_
      rotate_left
      · (go_simp; try with_reducible rfl)
      try simp only [Act.put, List.setIfInBounds_toArray, List.set_cons_zero, List.set_cons_succ]
      refine take_val (v := ?_) 5 (some 22) rfl (by kernel_rfl) (by kernel_rfl) (by kernel_rfl) (fun _ _ _ h => h) rfl rfl (fun w hSw => ?_) hHeld ?_
      rotate_left
      · (go_simp; try with_reducible rfl)
      try simp only [Act.put, List.setIfInBounds_toArray, List.set_cons_zero, List.set_cons_succ]
      refine take_val (v := ?_) 6 (some 23) rfl (by kernel_rfl) (by kernel_rfl) (by kernel_rfl) (fun _ _ _ h => h) rfl rfl (fun w hSw => ?_) hHeld ?_
      rotate_left
      · (go_simp; try with_reducible rfl)
      try simp only [Act.put, List.setIfInBounds_toArray, List.set_cons_zero, List.set_cons_succ]
      refine take_val (v := (.agg (feC ((f i : Nat) : Int)))) 7 (some 24) rfl (by kernel_rfl) (by kernel_rfl) (by kernel_rfl) (fun _ _ _ h => h) rfl rfl (fun w hSw => ?_) hHeld ?_
      · exact exec_load_mid w 24 _ rfl g' (o' + i * 32) rfl (feL ((f i : Nat) : Int)) _ (hG'.chg hSw (by simp)).range Tryz.underlying24 rfl feInfo
      try simp only [Act.put, List.setIfInBounds_toArray, List.set_cons_zero, List.set_cons_succ]
      refine take_val (v := (.bool false)) 8 (some 25) rfl (by kernel_rfl) (by kernel_rfl) (by kernel_rfl) (fun _ _ _ h => h) rfl rfl (fun w hSw => ?_) hHeld ?_
      · (go_simp; try with_reducible rfl)
      try simp only [Act.put, List.setIfInBounds_toArray, List.set_cons_zero, List.set_cons_succ]
      refine wpAnyH_done (by kernel_rfl) ?_ _
      go_wp2_with fail
      exact ⟨⟨i + 1, HI1.out, by go_num, cC.trans1 hHeld⟩, HM.out⟩
    · have hI : ¬ (i : Int) < (N : Int) := by omega
      go_wp2_with fail
      go_ret
      exact ⟨rfl, cC⟩
end Go.Proofs.YtemjpibmefggnaaGreat
