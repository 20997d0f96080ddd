/- Joined: GvG, GvShs. -/
import Derived.Test.YtoafcaieifjoiaaGreatMgB
import Derived.Test.YtoafcaieifjoiaaGreatMgO
/- rimeplain.Given: its thirty lists as a function; a pair of its lists (what was handed in, and its twins). Of no package. -/
set_option linter.unusedVariables false
set_option linter.unusedSimpArgs false
set_option linter.unnecessarySimpa false
namespace Go.Proofs.YtoafcaieifjoiaaGreat
open Go.RowKit

/-- A Given's thirty lists. -/
def gvC (G : Nat → Value) : Array Value := ((List.range 30).map G).toArray
theorem gvC_get (G : Nat → Value) (k : Nat) (h : k < 30) : (gvC G)[k]? = some (G k) := by simp [gvC, h]
def upV (G : Nat → Value) (i : Nat) (v : Value) : Nat → Value := fun j => if j = i then v else G j
theorem upV_same (G : Nat → Value) (i : Nat) (v : Value) : upV G i v i = v := by simp [upV]
theorem upV_other (G : Nat → Value) (i : Nat) (v : Value) (j : Nat) (h : ¬ j = i) : upV G i v j = G j := by simp [upV, h]
theorem gvC_set (G : Nat → Value) (i : Nat) (v : Value) : (gvC G).setIfInBounds i v = gvC (upV G i v) := by
  apply Array.ext_getElem?
  intro k
  by_cases h : k < 30
  · rw [gvC_get _ _ h]
    by_cases h2 : i = k
    · subst h2
      rw [Array.getElem?_setIfInBounds_self_of_lt (by simp [gvC]; exact h), upV_same]
    · rw [Array.getElem?_setIfInBounds_ne h2, gvC_get _ _ h, upV_other _ _ _ _ (fun e => h2 e.symm)]
  · rw [Array.getElem?_eq_none (by simp [gvC]; omega), Array.getElem?_eq_none (by simp [gvC]; omega)]
theorem Blk.ne {w : World} {a b : Nat} {C D : Array Value} {T U : TypeId} (h : Blk w a C T) (k : Blk w b D U) (hT : ¬ T = U) : ¬ a = b := by
  intro e
  subst e
  have : (some (Obj.cells C T (0, 0))) = some (Obj.cells D U (0, 0)) := by rw [← h, ← k]
  simp at this
  exact hT this.2
theorem ownsRow_blk {w : World} {base : Nat} {T : TypeId} {s : Nat} {v : Value} {n : Nat} {xs : List Value} (h : w.ownsRow base T s v n xs) {k : Nat} (hk : k ∈ ob v) : ∃ C, Blk w k C T := by
  rcases h.2 with ⟨rfl, _⟩ | ⟨g, cap, cur, rfl, hb, hg, _⟩
  · simp [ob, Value.ownBlock] at hk
  · simp [ob, Value.ownBlock] at hk
    subst hk
    exact ⟨cur, hg⟩
/-- The pair of lists at p and p + 1 of a Given in block gb: K copies, of N j rows F j each, and their twins. -/
structure Gv (w : World) (gb base : Nat) (G : Nat → Value) (p : Nat) (TG TE T : TypeId) (s K : Nat) (N : Nat → Nat) (F : Nat → Nat → List Value) : Prop where
  gb : Blk w gb (gvC G) TG
  lists : ∃ vs us : List Value, w.ownsRow base TE 1 (G p) K vs ∧ w.ownsRow base TE 1 (G (p + 1)) K us ∧ (∀ x, x ∈ ob (G p) → ¬ x ∈ ob (G (p + 1))) ∧
    ∀ j, j < K → ∃ o x, vs[j]? = some (.slice (some ⟨o, 0, none⟩) (N j) (N j)) ∧ us[j]? = some x ∧ N j ≤ 9223372036854775807 ∧ Blk w o (rL s (N j) (F j)).toArray T ∧ OwnR w base T s x (N j) (F j)
/-- What a call of Given may turn. -/
def gch (gb : Nat) (G : Nat → Value) (p : Nat) : List Nat := gb :: (ob (G p) ++ ob (G (p + 1)))
theorem Gv.off {w : World} {gb base : Nat} {G : Nat → Value} {p : Nat} {TG TE T : TypeId} {s K : Nat} {N : Nat → Nat} {F : Nat → Nat → List Value} (h : Gv w gb base G p TG TE T s K N F) {o : Nat} {C : Array Value} {U : TypeId} (hb : Blk w o C U) (h1 : ¬ U = TG) (h2 : ¬ U = TE) : ¬ o ∈ gch gb G p := by
  obtain ⟨vs, us, l1, l2, _⟩ := h.lists
  intro hm
  rcases List.mem_cons.1 hm with e | hm
  · exact hb.ne h.gb h1 e
  · rcases List.mem_append.1 hm with hm | hm
    · obtain ⟨C', hC⟩ := ownsRow_blk l1 hm
      exact hb.ne hC h2 rfl
    · obtain ⟨C', hC⟩ := ownsRow_blk l2 hm
      exact hb.ne hC h2 rfl
theorem ownR_blk {w : World} {base : Nat} {T : TypeId} {s : Nat} {v : Value} {n : Nat} {F : Nat → List Value} (h : OwnR w base T s v n F) {k : Nat} (hk : k ∈ ob v) : ∃ C, Blk w k C T := ownsRow_blk h.1 hk
/-- It stands where nothing old is turned. -/
theorem Gv.chg {w w' : World} {gb base : Nat} {G : Nat → Value} {p : Nat} {TG TE T : TypeId} {s K : Nat} {N : Nat → Nat} {F : Nat → Nat → List Value} (h : Gv w gb base G p TG TE T s K N F) (hc : Chg w w' []) : Gv w' gb base G p TG TE T s K N F := by
  refine ⟨h.gb.chg hc (by simp), ?_⟩
  obtain ⟨vs, us, l1, l2, hd, hj⟩ := h.lists
  refine ⟨vs, us, ownsRow_chg l1 hc (by simp), ownsRow_chg l2 hc (by simp), hd, fun j hjk => ?_⟩
  obtain ⟨o, x, h1, h2, h3, h4, h5⟩ := hj j hjk
  exact ⟨o, x, h1, h2, h3, h4.chg hc (by simp), h5.chg hc (by simp)⟩
theorem ob_slice (g n c : Nat) : ob (.slice (some ⟨g, 0, none⟩) n c) = [g] := rfl
/-- One more, and its twin: behind both appends. -/
theorem Gv.more {w w' : World} {gb base : Nat} {G : Nat → Value} {p : Nat} {TG TE T : TypeId} {s K : Nat} {N : Nat → Nat} {F : Nat → Nat → List Value} (h : Gv w gb base G p TG TE T s K N F) (hT1 : ¬ T = TG) (hT2 : ¬ T = TE)
    (hc : Chg w w' (gch gb G p)) {la lb : Value} {vs0 us0 : List Value} {o : Nat} {x : Value} {m : Nat} {H : Nat → List Value}
    (k1 : w.ownsRow base TE 1 (G p) K vs0) (k2 : w.ownsRow base TE 1 (G (p + 1)) K us0) (hj : ∀ j, j < K → ∃ o x, vs0[j]? = some (.slice (some ⟨o, 0, none⟩) (N j) (N j)) ∧ us0[j]? = some x ∧ N j ≤ 9223372036854775807 ∧ Blk w o (rL s (N j) (F j)).toArray T ∧ OwnR w base T s x (N j) (F j))
    (hgb : Blk w' gb (gvC (upV (upV G p la) (p + 1) lb)) TG) (l1 : w'.ownsRow base TE 1 la (K + 1) (vs0 ++ [.slice (some ⟨o, 0, none⟩) m m])) (l2 : w'.ownsRow base TE 1 lb (K + 1) (us0 ++ [x])) (hd : ∀ x, x ∈ ob la → ¬ x ∈ ob lb)
    (hm : m ≤ 9223372036854775807) (ho : Blk w' o (rL s m H).toArray T) (hx : OwnR w' base T s x m H) :
    Gv w' gb base (upV (upV G p la) (p + 1) lb) p TG TE T s (K + 1) (fun j => if j = K then m else N j) (fun j => if j = K then H else F j) := by
  refine ⟨hgb, ?_⟩
  have e1 : upV (upV G p la) (p + 1) lb p = la := by rw [upV_other _ _ _ _ (by omega), upV_same]
  have e2 : upV (upV G p la) (p + 1) lb (p + 1) = lb := upV_same _ _ _
  rw [e1, e2]
  have hoff := fun o C hb => h.off (o := o) (C := C) (U := T) hb hT1 hT2
  have s1 : vs0.length = K := by have := k1.1; omega
  have s2 : us0.length = K := by have := k2.1; omega
  refine ⟨_, _, l1, l2, hd, fun j hjk => ?_⟩
  by_cases hjK : j = K
  · subst hjK
    refine ⟨o, x, ?_, ?_, ?_, ?_, ?_⟩
    · rw [List.getElem?_append_right (by omega), s1, if_pos rfl]; simp
    · rw [List.getElem?_append_right (by omega), s2]; simp
    · rw [if_pos rfl]; exact hm
    · rw [if_pos rfl, if_pos rfl]; exact ho
    · rw [if_pos rfl, if_pos rfl]; exact hx
  · obtain ⟨o', x', q1, q2, q3, q4, q5⟩ := hj j (by omega)
    refine ⟨o', x', ?_, ?_, ?_, ?_, ?_⟩
    · rw [List.getElem?_append_left (by omega), if_neg hjK]; exact q1
    · rw [List.getElem?_append_left (by omega)]; exact q2
    · rw [if_neg hjK]; exact q3
    · rw [if_neg hjK, if_neg hjK]; exact q4.chg hc (hoff _ _ q4)
    · rw [if_neg hjK, if_neg hjK]
      exact q5.chg hc (fun k hk => by obtain ⟨C, hC⟩ := ownR_blk q5 hk; exact hoff _ _ hC)
/-- The rows of a copy that is handed in: those that came, and marks behind them. -/
def gvR (mk F : Nat → List Value) (n : Nat) : Nat → List Value := fun j => if j < n then F j else mk j
theorem gvR_ok {s m n : Nat} {mk F : Nat → List Value} (hm : ∀ i, (mk i).length = s ∧ ∀ v ∈ mk i, v.oneCell' = true) (hF : Rok s n F) (i : Nat) (hi : i ≤ n) : Rok s m (gvR mk F i) := fun j _ => by
  unfold gvR
  by_cases h : j < i
  · rw [if_pos h]; exact hF j (by omega)
  · rw [if_neg h]; exact hm j
end Go.Proofs.YtoafcaieifjoiaaGreat

/- rimeplain: markShares, CopyShares, (*Given).Shares. -/
namespace Go.Proofs.YtoafcaieifjoiaaGreat
open Go.RowKit N

/-- The mark of list 987 at place k. -/
def mkH (k : Nat) : Int := -988002964 - (k : Int)
def mkHr : Nat → List Value := hF mkH (fun _ => 0)
theorem mkH_ok (i : Nat) : (mkHr i).length = 33 ∧ ∀ v ∈ mkHr i, v.oneCell' = true := hF_ok (i + 1) mkH (fun _ => 0) i (by omega)
theorem built_sh1 (d : Int) : Tryz.prog.built 96 [(0, .int .i64 d)] = some (shC d 0) := by kernel_rfl
set_option maxHeartbeats 4000000 in
set_option maxRecDepth 100000 in
theorem markShares_9 (k : Nat) (hk : k ≤ 17592186044416) (w : World) : Calls Tryz.prog 69 #[.int .i64 987, .int .i64 (k : Int)] w fun e w' => e = .returned (.agg (shC (mkH k) 0)) ∧ Chg w w' [] := by
  have e2 : IntKind.i64.wrap (-988002964 - (k : Int)) = mkH k := by rw [IntKind.wrap_i64]; unfold mkH; omega
  clear hk
  obtain ⟨X, hX⟩ : ∃ X, mkH k = X := ⟨_, rfl⟩
  rw [hX] at e2 ⊢
  clear hX
  have HBd := built_sh1 X
  go_enter Tryz.func69, Tryz.ntmps69
  go_wp2_with (first
    | (refine alloc_w rfl 96 rfl (.agg zSh) zeroSh zSh rfl ?_; intro sb w1 hsb B0 k1)
    | (with_reducible refine build_1 ?_ 96 0 (.tmp 9) ?_ (.int .i64 X) ?_ (shC X 0) HBd ?_
       · rfl
       · rfl
       · rfl)
    | (refine store_w B0 rfl 96 _ _ (shC X 0) rfl rfl rfl shInfo rfl (shC_one _ _) ?_; intro wq Bs k2))
  exact bodyPost_ret (results_cell_row Tryz.results69 _ _ sb 96 (shC X 0) (0, 0) _ rfl Bs Tryz.underlying96 rfl shInfo) rfl ⟨rfl, k1.new k2 hsb⟩
theorem catR_zeroH (F G : Nat → List Value) : catR F 0 G = G := by funext j; unfold catR; rw [if_neg (by omega), Nat.sub_zero]
set_option maxHeartbeats 4000000 in
set_option maxRecDepth 100000 in
theorem CopyShares_s (v : Value) (n : Nat) (F : Nat → List Value) (w : World) (h0 : 0 < n) (hn : n ≤ 3518437208883) (hv : Rl w 33 v n F) :
    Calls Tryz.prog 70 #[v] w fun e w' => ∃ g cap, e = .returned (.slice (some ⟨g, 0, none⟩) n cap) ∧ OwnR w' w.heap.size 96 33 (.slice (some ⟨g, 0, none⟩) n cap) n F ∧ Chg w w' [] := by
  obtain ⟨inf, hinf, hz, hs1, hs2⟩ := shRow
  go_enter Tryz.func70, Tryz.ntmps70
  go_wp2_with (refine wpList_append_r rfl (.tmp 4) (.tmp 5) 49 rfl 96 inf (.agg zSh) 33 40 Tryz.underlying49 hinf hz hs1 hs2 rfl (by omega) w.heap.size (.slice none 0 0) v 0 n F F rfl rfl (OwnR.nil _ _ _ _ F) hv h0 (by omega) (by omega) (Nat.le_refl _) ?_; intro g cap w1 O1 q1 _ _; rw [Nat.zero_add, catR_zeroH] at O1; rw [Nat.zero_add]; replace q1 : Chg w w1 [] := q1)
  go_ret
  exact ⟨g, cap, rfl, O1, q1⟩
theorem listRowH : ∃ i, Tryz.prog.info? 49 = some i ∧ i.zero = some (.slice none 0 0) ∧ i.size = 1 ∧ i.bytes = 24 := by
  have h : (Tryz.prog.info? 49).map (fun i => (i.zero, i.size, i.bytes)) = some (some (.slice none 0 0), 1, 24) := by kernel_rfl
  cases hi : Tryz.prog.info? 49 with
  | none => rw [hi] at h; simp at h
  | some i => rw [hi] at h; simp at h; exact ⟨i, rfl, h.1, h.2.1, h.2.2⟩
theorem make_hb9 {w : World} {ops : Array Oper} {rest : List Oper} {op : Oper} {a : Act} {Q : Exit → Act → World → Prop} (hgd : op.guard = none) (x y : Operand) (ho : op.op = .makeSlice 49 x y) (r : Nat) (hr : r ≤ 3518437208883) (hx : a.eval x = .int .i64 (r : Int)) (hy : a.eval y = .int .i64 (r : Int))
    (h : ∀ g w', w.heap.size ≤ g → Hb w' g r (fun _ => 0) (fun _ => 0) → Chg w w' [] → wpList Tryz.prog ops Q rest (a.put op.dst (.slice (some ⟨g, 0, none⟩) r r)) w') : wpList Tryz.prog ops Q (op :: rest) a w := by
  obtain ⟨i, hi, hz, h1, h2⟩ := shRow
  have hm := run_make (P := Tryz.prog) w 49 96 i (.agg zSh) Tryz.underlying49 hi hz .i64 .i64 (r : Int) (r : Int) (by omega) (by omega) (by rw [h2]; omega) (by omega)
  rw [h1, Int.toNat_natCast] at hm
  have hB : Hb (w.alloc (.cells (madeCells zSh (r * 33)) 96)) w.heap.size r (fun _ => 0) (fun _ => 0) := by
    rw [made_r zSh 33 r rfl]
    refine (Blk.new w _ _).to (congrArg List.toArray (rL_congr fun j _ => ?_))
    kernel_rfl
  refine wpList_plain hgd fun K hK => ?_
  unfold Oper.wp execOp
  simp only [ho, hx, hy, Sem.run_bind, hm, Sem.run_pure, Result.andThen_ok]
  exact hK _ _ (h _ _ (Nat.le_refl _) hB ((Chg.refl w []).alloc _))
/-- What Shares answers and leaves. -/
def GvHp (w w' : World) (gb base n m : Nat) (d v0 : Nat → Int) (G : Nat → Value) (Kn : Nat) (N : Nat → Nat) (F : Nat → Nat → List Value) (r : Value) : Prop :=
  ∃ o la lb, r = .slice (some ⟨o, 0, none⟩) n m ∧ w.heap.size ≤ o ∧ Chg w w' (gch gb G 16) ∧ Blk w' o (rL 33 m (gvR mkHr (hF d v0) n)).toArray 96 ∧
    Gv w' gb base (upV (upV G 16 la) (16 + 1) lb) 16 42 49 96 33 (Kn + 1) (fun j => if j = Kn then m else N j) (fun j => if j = Kn then gvR mkHr (hF d v0) n else F j)
theorem upS_stepH (f g : Nat → Int) (k j : Nat) : upS (fun j => if j < k then f j else g j) k (f k) j = if j < k + 1 then f j else g j := by
  unfold upS
  by_cases h : j = k
  · subst h; simp
  · by_cases h2 : j < k
    · rw [if_neg h, if_pos (show j < k + 1 by omega)]; exact if_pos h2
    · rw [if_neg h, if_neg (show ¬ j < k + 1 by omega)]; exact if_neg h2
set_option maxHeartbeats 8000000 in
set_option maxRecDepth 100000 in
theorem GivenShares_s (gb n base Kn : Nat) (v : Value) (d v0 : Nat → Int) (G : Nat → Value) (N : Nat → Nat) (F : Nat → Nat → List Value) (w : World) (hn : n ≤ 3518437208780) (hK : Kn ≤ 1000) (hbase : base ≤ w.heap.size) (hv : Hl w v n d v0)
    (hg : Gv w gb base G 16 42 49 96 33 Kn N F) :
    Calls Tryz.prog 25 #[.pointer (some ⟨gb, 0, none⟩), v] w fun e w' => ∃ r, e = .returned r ∧ GvHp w w' gb base n (n + 3) d v0 G Kn N F r := by
  obtain ⟨vp, vc, rfl, hp⟩ := hv.1.form
  obtain ⟨m, hm⟩ : ∃ m, n + 3 = m := ⟨_, rfl⟩
  have HM : Hid (n + 3 = m) := hm
  have e1 : IntKind.i64.wrap ((n : Int) + 3) = (m : Int) := by rw [IntKind.wrap_i64]; omega
  have hnm : n < m := by omega
  have hmb : m ≤ 3518437208783 := by omega
  have HMB : Hid (m ≤ 3518437208883) := by show m ≤ 3518437208883; omega
  rw [hm]
  clear hm hn hv
  go_enter Tryz.func25, Tryz.ntmps25
  go_wp2_with (with_reducible refine make_hb9 rfl (.tmp 10) (.tmp 10) rfl m HMB.out ?_ ?_ ?_
               · rfl
               · rfl
               intro y w0 hy I0 C1)
  have HY : Hid (w.heap.size ≤ y) := hy
  have B1 : Hb w0 y m (fun j => if j < 0 then mkH j else 0) (fun _ => 0) := I0.congr (fun j _ => (if_neg (by omega)).symm) (fun _ _ => rfl)
  clear I0 hy
  go_loopw [6] (fun t wr => ∃ i : Nat, i ≤ m ∧ t = .int .i64 (i : Int) ∧ Hb wr y m (fun j => if j < i then mkH j else 0) (fun _ => 0) ∧ Chg w wr []) (fun t _ => ((m : Int) - intOf t).toNat)
  case atStart => exact ⟨0, by omega, rfl, B1, C1⟩
  case round =>
    clear B1 C1
    obtain ⟨i, hi, rfl, b0, c0⟩ := hrel
    by_cases h8 : i < m
    · have hI : (i : Int) < (m : Int) := by omega
      have hI0 : (0 : Int) ≤ (i : Int) := by omega
      have HI : Hid (i < m) := h8
      have HI1 : Hid (i ≤ 17592186044416) := by show i ≤ 17592186044416; omega
      have e2 : IntKind.i64.wrap ((i : Int) + 1) = (i : Int) + 1 := by rw [IntKind.wrap_i64]; omega
      have HJ : Hid (((m : Int) - intOf (.int .i64 ((i : Int) + 1))).toNat < ((m : Int) - intOf (.int .i64 (i : Int))).toNat) := by show ((m : Int) - intOf (.int .i64 ((i : Int) + 1))).toNat < ((m : Int) - intOf (.int .i64 (i : Int))).toNat; simp [intOf]; omega
      clear h8 hi hp hg hnm hmb hbase hK HM
      go_wp2_with fail
      refine (markShares_9 i HI1.out _).mono ?_
      rintro e v1 ⟨rfl, k1⟩
      replace b0 := b0.chg k1 (by simp)
      replace c0 := c0.trans1 k1
      clear k1
      go_wp2_with (with_reducible refine store_hb ?_ (.tmp 22) (.tmp 21) ?_ y m i _ _ (mkH i) 0 ?_ ?_ b0 HI.out ?_
                   · rfl
                   · rfl
                   · rfl
                   · rfl
                   intro w2 b2 c2)
      exact ⟨⟨i + 1, HI.out, by go_num, b2.congr (fun j _ => upS_stepH mkH (fun _ => 0) i j) (fun j _ => by unfold upS; split <;> rfl), c0.new c2 HY.out⟩, HJ.out⟩
    · have h9 : i = m := by omega
      subst h9
      have hI : ¬ (i : Int) < (i : Int) := by omega
      go_wp2_with fail
      have B2 : Hb wr y i (fun j => if j < 0 then d j else mkH j) (fun j => if j < 0 then v0 j else 0) := b0.congr (fun j hj => by rw [if_pos hj, if_neg (by omega)]) (fun j hj => by rw [if_neg (by omega)])
      clear b0
      go_loopw [7] (fun t wr => ∃ k : Nat, k ≤ n ∧ t = .int .i64 (k : Int) ∧ Hb wr y i (fun j => if j < k then d j else mkH j) (fun j => if j < k then v0 j else 0) ∧ Chg w wr []) (fun t _ => ((n : Int) - intOf t).toNat)
      case atStart => exact ⟨0, by omega, rfl, B2, c0⟩
      case round =>
        clear B2 c0
        obtain ⟨k, hk, rfl, b0, c0⟩ := hrel
        by_cases h8 : k < n
        · have hI1 : (k : Int) < (n : Int) := by omega
          have hI2 : (k : Int) < (i : Int) := by omega
          have HK1 : Hid (k + 1 ≤ n) := by show k + 1 ≤ n; omega
          have e2 : IntKind.i64.wrap ((k : Int) + 1) = (k : Int) + 1 := by rw [IntKind.wrap_i64]; omega
          have HJ : Hid (((n : Int) - intOf (.int .i64 ((k : Int) + 1))).toNat < ((n : Int) - intOf (.int .i64 (k : Int))).toNat) := by show ((n : Int) - intOf (.int .i64 ((k : Int) + 1))).toNat < ((n : Int) - intOf (.int .i64 (k : Int))).toNat; simp [intOf]; omega
          obtain ⟨g, o, rfl, hgl, hr0⟩ := hp k h8
          have hr : wr.rangeAt g (o + k * 33) (.int .i64 (d k) :: feL (v0 k)) := rangeAt_chg hr0 hgl c0 (by simp)
          have HKI : Hid (k < i) := by show k < i; omega
          have HR : Hid _ := hr
          obtain ⟨D, hD⟩ : ∃ D, d k = D := ⟨_, rfl⟩
          obtain ⟨X, hX⟩ : ∃ X, v0 k = X := ⟨_, rfl⟩
          rw [hD, hX] at hr
          have HDX : Hid (d k = D ∧ v0 k = X) := ⟨hD, hX⟩
          clear h8 hk hp hr0 hnm hmb hg hbase hK HM HR hD hX
          go_wp2_with (first
            | (with_reducible refine load_sh ?_ (.tmp 33) ?_ g (o + k * 33) D X ?_ hr ?_
               · rfl
               · rfl
               · rfl)
            | (with_reducible refine store_hb ?_ (.tmp 35) (.tmp 34) ?_ y i k _ _ D X ?_ ?_ b0 HKI.out ?_
               · rfl
               · rfl
               · rfl
               · rfl
               intro w2 b2 c2))
          exact ⟨⟨k + 1, HK1.out, by go_num, b2.congr (fun j _ => by rw [← HDX.out.1]; exact upS_stepH d mkH k j) (fun j _ => by rw [← HDX.out.2]; exact upS_stepH v0 (fun _ => 0) k j), c0.new c2 HY.out⟩, HJ.out⟩
        · have h9 : k = n := by omega
          subst h9
          have hI1 : ¬ (k : Int) < (k : Int) := by omega
          have b0 : Blk wr y (rL 33 i (gvR mkHr (hF d v0) k)).toArray 96 := Blk.to b0 (congrArg List.toArray (rL_congr fun j _ => by unfold gvR mkHr hF; by_cases h : j < k <;> simp [h]))
          obtain ⟨RR, hRR⟩ : ∃ RR, gvR mkHr (hF d v0) k = RR := ⟨_, rfl⟩
          have HRR : Hid (gvR mkHr (hF d v0) k = RR) := hRR
          have HOK : Hid (Rok 33 i RR) := hRR ▸ gvR_ok mkH_ok (hF_ok k d v0) k (Nat.le_refl _)
          have BO : Blk wr y (rL 33 i RR).toArray 96 := hRR ▸ b0
          have HCW : Hid (Chg w wr []) := c0
          have HG1 : Hid (Gv wr gb base G 16 42 49 96 33 Kn N F) := hg.chg c0
          have hg1 := HG1.out
          have ybs : base ≤ wr.heap.size := Nat.le_trans hbase c0.size
          obtain ⟨vs, us, l1, l2, hd, hj⟩ := hg1.lists
          have HJ : Hid (∀ j, j < Kn → ∃ o x, vs[j]? = some (.slice (some ⟨o, 0, none⟩) (N j) (N j)) ∧ us[j]? = some x ∧ N j ≤ 9223372036854775807 ∧ Blk wr o (rL 33 (N j) (F j)).toArray 96 ∧ OwnR wr base 96 33 x (N j) (F j)) := hj
          have HL1 : Hid (wr.ownsRow base 49 1 (G 16) Kn vs) := l1
          have HL2 : Hid (wr.ownsRow base 49 1 (G (16 + 1)) Kn us) := l2
          have g8 : ¬ gb ∈ ob (G 16) := fun hx => by obtain ⟨C, hC⟩ := ownsRow_blk l1 hx; exact hg1.gb.ne hC (by decide) rfl
          have g9 : ¬ gb ∈ ob (G (16 + 1)) := fun hx => by obtain ⟨C, hC⟩ := ownsRow_blk l2 hx; exact hg1.gb.ne hC (by decide) rfl
          have y8 : ¬ y ∈ ob (G 16) := fun hx => by obtain ⟨C, hC⟩ := ownsRow_blk l1 hx; exact BO.ne hC (by decide) rfl
          have y9 : ¬ y ∈ ob (G (16 + 1)) := fun hx => by obtain ⟨C, hC⟩ := ownsRow_blk l2 hx; exact BO.ne hC (by decide) rfl
          have yg : ¬ y = gb := BO.ne hg1.gb (by decide)
          have HCH : Hid (gch gb G 16 = gb :: (ob (G 16) ++ ob (G (16 + 1)))) := rfl
          have GB00 := hg1.gb
          obtain ⟨la0, hla0⟩ : ∃ v, G 16 = v := ⟨_, rfl⟩
          obtain ⟨lb0, hlb0⟩ : ∃ v, G (16 + 1) = v := ⟨_, rfl⟩
          rw [hla0] at g8 y8 l1 hd
          rw [hlb0] at g9 y9 l2 hd
          have cg0 : wr.cell? ⟨gb, 16, none⟩ = some la0 := by rw [GB00.cell, gvC_get _ _ (by decide), hla0]
          have HLA0 : Hid (G 16 = la0) := hla0
          have HLB0 : Hid (G (16 + 1) = lb0) := hlb0
          have HI0 : Hid (0 < i) := by show 0 < i; omega
          have HIM : Hid (i ≤ 3518437208883) := by show i ≤ 3518437208883; omega
          have hki : (k : Int) ≤ (i : Int) := by omega
          obtain ⟨inf, hinf, hz, hs1, hs2⟩ := listRowH
          have AL := Blk.new wr #[.slice (some ⟨y, 0, none⟩) i i] 49
          have HNW : Hid (∀ j u, ([.slice (some ⟨y, 0, none⟩) i i] : List Value)[j]? = some u → (wr.alloc (.cells #[.slice (some ⟨y, 0, none⟩) i i] 49)).cell? ((⟨wr.heap.size, 0, none⟩ : Addr).add j) = some u) := by
            intro j u hj
            refine add_cell ?_
            rw [Nat.zero_add, AL.cell]
            simpa using hj
          have HLA : Hid ((wr.alloc (.cells #[.slice (some ⟨y, 0, none⟩) i i] 49)).ownsRow base 49 1 la0 Kn vs) := l1.alloc _
          have H63 : Hid (Kn + 1 ≤ maxLen) := by show Kn + 1 ≤ maxLen; simp only [maxLen]; omega
          have HBY : Hid ((Kn + 1) * 24 ≤ 140737488355328) := by show (Kn + 1) * 24 ≤ 140737488355328; omega
          have HBA : Hid (base ≤ (wr.alloc (.cells #[.slice (some ⟨y, 0, none⟩) i i] 49)).heap.size) := by show base ≤ _; simp; omega
          have HON : Hid (∀ u ∈ ([.slice (some ⟨y, 0, none⟩) i i] : List Value), u.oneCell' = true) := by show ∀ u ∈ ([.slice (some ⟨y, 0, none⟩) i i] : List Value), u.oneCell' = true; simp [Value.oneCell']
          have GA := GB00.alloc (.cells #[.slice (some ⟨y, 0, none⟩) i i] 49)
          have BA := BO.alloc (.cells #[.slice (some ⟨y, 0, none⟩) i i] 49)
          have LB1 := l2.alloc (.cells #[.slice (some ⟨y, 0, none⟩) i i] 49)
          have HD0 : Hid (∀ x, x ∈ ob la0 → ¬ x ∈ ob lb0) := hd
          have HLT : Hid (∀ x, x ∈ ob lb0 → x < wr.heap.size) := fun x hx => by obtain ⟨C, hC⟩ := ownsRow_blk l2 hx; exact hC.lt
          have CA := (Chg.refl wr (gch gb G 16)).alloc (.cells #[.slice (some ⟨y, 0, none⟩) i i] 49)
          have HIN : Hid (∀ x, x ∈ ob la0 → x ∈ gch gb G 16) := fun x hx => by rw [HCH.out, hla0]; simp [hx]
          have HIN9 : Hid (∀ x, x ∈ gb :: ob lb0 → x ∈ gch gb G 16) := fun x hx => by rw [HCH.out, hlb0]; simp only [List.mem_cons, List.mem_append] at hx ⊢; rcases hx with h | h <;> simp [h]
          have HGI : Hid (gb ∈ gch gb G 16) := List.mem_cons_self
          have wasz : (wr.alloc (.cells #[.slice (some ⟨y, 0, none⟩) i i] 49)).heap.size = wr.heap.size + 1 := by simp
          clear hRR b0 hp hg hj hd AL l1 l2 BO hg1 GB00 c0 hla0 hlb0 hnm hmb hk h8 hK
          go_wp2_with (with_reducible refine wpList_append_lies _ ?_ (.tmp 40) (.tmp 42) 34 ?_ base 49 inf (.slice none 0 0) 1 24 Tryz.underlying34 hinf hz hs1 hs2 ?_ ?_ la0 Kn vs ?_ HLA.out ⟨wr.heap.size, 0, none⟩ 1 1 [.slice (some ⟨y, 0, none⟩) i i] ?_ ?_ HNW.out HON.out ?_ H63.out HBY.out HBA.out (wr.heap.size + 1) ?_ ?_
                       · rfl
                       · rfl
                       · rfl
                       · decide
                       · rfl
                       · rfl
                       · rfl
                       · decide
                       · exact wasz
                       intro lg lc w1 O1 G1 hat hlt
                       replace G1 := Chg.grown G1
                       have GB0 := GA.chg G1 g8
                       have cgb : w1.cell? ⟨gb, 16, none⟩ = some la0 := by rw [GB0.cell, gvC_get _ _ (by decide)]; exact congrArg some HLA0.out
                       have fgb := GB0.frozen 16)
          have lgg : ¬ lg = gb := by obtain ⟨C, hC⟩ := ownsRow_blk O1 (k := lg) (by rw [ob_slice]; simp); exact hC.ne GB0 (by decide)
          have DJ : ¬ lg ∈ ob lb0 := by
            rcases hat with h | h
            · exact HD0.out lg (by simp [ob, h])
            · intro hx
              have := HLT.out lg hx
              omega
          have GB := (GB0.setCell 16 (.slice (some ⟨lg, 0, none⟩) (Kn + 1) lc)).to (gvC_set _ _ _)
          have BO1 := (BA.chg G1 y8).setOther yg 16 (.slice (some ⟨lg, 0, none⟩) (Kn + 1) lc)
          have SV := (Chg.refl w1 [gb]).setIn (k := gb) (by simp) 16 (.slice (some ⟨lg, 0, none⟩) (Kn + 1) lc)
          have LA1 := ownsRow_chg O1 SV (by rw [ob_slice]; simpa using lgg)
          have LB2 := ownsRow_chg (ownsRow_chg LB1 G1 (fun x hx hx' => HD0.out x hx' hx)) SV (fun x hx he => g9 (by simp at he; exact he ▸ hx))
          have CV := (CA.trans G1 (fun x hx => Or.inl (HIN.out x hx))).setIn HGI.out 16 (.slice (some ⟨lg, 0, none⟩) (Kn + 1) lc)
          have bV : base ≤ (w1.setCell ⟨gb, 16, none⟩ (.slice (some ⟨lg, 0, none⟩) (Kn + 1) lc)).heap.size := Nat.le_trans ybs CV.size
          clear SV cgb fgb GB0 O1 G1 GA BA LB1 CA HLA HNW HON HBA wasz cg0 hat hlt HD0 HLT HIN
          generalize w1.setCell ⟨gb, 16, none⟩ (.slice (some ⟨lg, 0, none⟩) (Kn + 1) lc) = V at *
          have HBV : Hid (base ≤ V.heap.size) := bV
          refine wp_region_held_drew (S := fun w' => Chg V w' (gb :: ob lb0)) (by kernel_rfl) ((Chg.refl V _).drew) (fun hHeld => ?_)
          replace GB := GB.drew
          replace BO1 := BO1.drew
          replace LA1 := ownsRow_chg LA1 ((Chg.refl V []).drew) (by simp)
          replace LB2 := ownsRow_chg LB2 ((Chg.refl V []).drew) (by simp)
          refine tv (v := ?_) 0 (some 46) rfl (by kernel_rfl) (fun _ _ _ h => h) rfl rfl (fun w hSw => ?_) hHeld ?_; rotate_left; (· (go_simp; try with_reducible rfl)); try simp only [Act.put, sA1, sA2, sA3]
          refine tv (v := ?_) 1 (some 47) rfl (by kernel_rfl) (fun _ _ _ h => h) rfl rfl (fun w hSw => ?_) hHeld ?_; rotate_left; (· (go_simp; try with_reducible rfl)); try simp only [Act.put, sA1, sA2, sA3]
          refine tv (v := ?_) 2 (some 48) rfl (by kernel_rfl) (fun _ _ _ h => h) rfl rfl (fun w hSw => ?_) hHeld ?_; rotate_left; (· (go_simp; try with_reducible rfl)); try simp only [Act.put, sA1, sA2, sA3]
          refine tv (v := ?_) 3 (some 49) rfl (by kernel_rfl) (fun _ _ _ h => h) rfl rfl (fun w hSw => ?_) hHeld ?_; rotate_left; (· (go_simp; try with_reducible rfl)); try simp only [Act.put, sA1, sA2, sA3]
          refine tv (v := ?_) 5 (some 51) rfl (by kernel_rfl) (fun _ _ _ h => h) rfl rfl (fun w hSw => ?_) hHeld ?_; rotate_left; (· (go_simp; try with_reducible rfl)); try simp only [Act.put, sA1, sA2, sA3]
          refine wpAnyH_ready (rs := [4, 6]) (by kernel_rfl) (by simp) ?_
          refine AllReadyH.cons (o := _) rfl (fun K hK => ?_) ?_
          ·
            have cg := GB.cell 17
            rw [gvC_get _ _ (by decide), upV_other _ _ _ _ (by decide), show G 17 = lb0 from HLB0.out] at cg
            rw [if_pos (by rfl)]
            go_simp
            refine hK.out _ _ (hHeld) (fun hHeld => ?_)
            clear hK K
            try simp only [Act.put, sA1, sA2, sA3]
            refine wpAnyH_ready (rs := [6]) (by kernel_rfl) (by simp) ?_
            refine AllReadyH.cons (o := _) rfl (fun K hK => ?_) ?_
            ·
              go_simp
              refine (CopyShares_s (.slice (some ⟨y, 0, none⟩) i i) i RR _ HI0.out HIM.out ⟨HOK.out, Or.inr ⟨y, 0, i, rfl, Nat.le_refl _, by have := HIM.out; omega, BO1.lt, fun j hj => by rw [Nat.zero_add]; exact BO1.rangeRw HOK.out hj⟩⟩).mono ?_
              rintro e v7 ⟨xg, xc, rfl, OX, k7⟩
              go_wp2_with fail
              refine hK.out _ _ (hHeld.trans1 k7.wide) (fun hHeld => ?_)
              clear hK K
              try simp only [Act.put, sA1, sA2, sA3]
              replace GB := GB.chg k7 (by simp)
              replace BO1 := BO1.chg k7 (by simp)
              replace LA1 := ownsRow_chg LA1 k7 (by simp)
              replace LB2 := ownsRow_chg LB2 k7 (by simp)
              have bv7 : base ≤ v7.heap.size := Nat.le_trans HBV.out k7.size
              have lglt : lg < v7.heap.size := by obtain ⟨C, hC⟩ := ownsRow_blk LA1 (k := lg) (by rw [ob_slice]; simp); exact hC.lt
              have xg9 : ¬ xg ∈ ob lb0 := fun hx => by obtain ⟨C, hC⟩ := ownsRow_blk LB2 hx; obtain ⟨D, hD⟩ := ownR_blk OX (k := xg) (by rw [ob_slice]; simp); exact hD.ne hC (by decide) rfl
              have xgg : ¬ xg = gb := by obtain ⟨D, hD⟩ := ownR_blk OX (k := xg) (by rw [ob_slice]; simp); exact hD.ne GB (by decide)
              clear k7
              refine wpAnyH_ready (rs := [7]) (by kernel_rfl) (by simp) ?_
              refine AllReadyH.cons (o := _) rfl (fun K hK => ?_) ?_
              ·
                rw [if_pos (by rfl)]
                go_simp
                refine hK.out _ _ (hHeld.alloc _) (fun hHeld => ?_)
                clear hK K
                try simp only [Act.put, sA1, sA2, sA3]
                have AL := Blk.new v7 #[.slice (some ⟨xg, 0, none⟩) i xc] 49
                replace GB := GB.alloc (.cells #[.slice (some ⟨xg, 0, none⟩) i xc] 49)
                replace BO1 := BO1.alloc (.cells #[.slice (some ⟨xg, 0, none⟩) i xc] 49)
                replace LA1 := LA1.alloc (.cells #[.slice (some ⟨xg, 0, none⟩) i xc] 49)
                replace LB2 := LB2.alloc (.cells #[.slice (some ⟨xg, 0, none⟩) i xc] 49)
                replace OX := OX.chg ((Chg.refl v7 []).alloc (.cells #[.slice (some ⟨xg, 0, none⟩) i xc] 49)) (by simp)
                refine wpAnyH_ready (rs := [8]) (by kernel_rfl) (by simp) ?_
                refine AllReadyH.cons (o := _) rfl (fun K hK => ?_) ?_
                ·
                  rw [if_pos (by rfl)]
                  refine wp_append_lies _ (.tmp 50) (.tmp 53) 34 rfl base 49 inf (.slice none 0 0) 1 24 Tryz.underlying34 hinf hz hs1 hs2 rfl (by decide) lb0 Kn us rfl LB2 ⟨v7.heap.size, 0, none⟩ 1 1 [.slice (some ⟨xg, 0, none⟩) i xc] rfl rfl (fun j u hj => add_cell (by rw [Nat.zero_add, AL.cell]; simpa using hj)) (by simp [Value.oneCell']) (by decide) H63.out HBY.out (by simp; omega) (v7.heap.size + 1) (by simp) ?_
                  intro mg mc w8 O8 G8 hat8 hlt8
                  replace G8 := Chg.grown G8
                  have DJ2 : ¬ lg = mg := by
                    rcases hat8 with h | h
                    · intro e; exact DJ (by simp [ob, h, e])
                    · omega
                  refine hK.out _ _ (hHeld.trans1 (G8.incl (fun x hx => List.mem_cons_of_mem _ hx))) (fun hHeld => ?_)
                  clear hK K
                  try simp only [Act.put, sA1, sA2, sA3]
                  replace GB := GB.chg G8 g9
                  replace BO1 := BO1.chg G8 y9
                  replace LA1 := ownsRow_chg LA1 G8 (by rw [ob_slice]; simpa using DJ)
                  replace OX := OX.chg G8 (by rw [ob_slice]; simpa using xg9)
                  have mgg : ¬ mg = gb := by obtain ⟨C, hC⟩ := ownsRow_blk O8 (k := mg) (by rw [ob_slice]; simp); exact hC.ne GB (by decide)
                  clear G8 AL hat8 hlt8 LB2
                  refine tv (v := ?_) 9 (some 55) rfl (by kernel_rfl) (fun _ _ _ h => h) rfl rfl (fun w hSw => ?_) hHeld ?_; rotate_left; (· (go_simp; try with_reducible rfl)); try simp only [Act.put, sA1, sA2, sA3]
                  refine tv (v := ?_) 10 (some 56) rfl (by kernel_rfl) (fun _ _ _ h => h) rfl rfl (fun w hSw => ?_) hHeld ?_; rotate_left; (· (go_simp; try with_reducible rfl)); try simp only [Act.put, sA1, sA2, sA3]
                  refine wpAnyH_ready (rs := [11]) (by kernel_rfl) (by simp) ?_
                  refine AllReadyH.cons (o := _) rfl (fun K hK => ?_) ?_
                  ·
                    have cg := GB.cell 17
                    rw [gvC_get _ _ (by decide), upV_other _ _ _ _ (by decide), show G 17 = lb0 from HLB0.out] at cg
                    have fg := GB.frozen 17
                    rw [if_pos (by rfl)]
                    go_simp
                    refine hK.out _ _ (hHeld.setIn (by simp) _ _) (fun hHeld => ?_)
                    clear hK K
                    try simp only [Act.put, sA1, sA2, sA3]
                    refine wpAnyH_done (by kernel_rfl) ?_ _
                    have GB2 := (GB.setCell 17 (.slice (some ⟨mg, 0, none⟩) (Kn + 1) mc)).to (gvC_set _ _ _)
                    have SC := (Chg.refl w8 [gb]).setIn (k := gb) (by simp) 17 (.slice (some ⟨mg, 0, none⟩) (Kn + 1) mc)
                    have BO2 := BO1.chg SC (by simpa using yg)
                    have LA2 := ownsRow_chg LA1 SC (by rw [ob_slice]; simpa using lgg)
                    have LB3 := ownsRow_chg O8 SC (by rw [ob_slice]; simpa using mgg)
                    have OX2 := OX.chg SC (by rw [ob_slice]; simpa using xgg)
                    have C9 := CV.trans hHeld (fun x hx => Or.inl (HIN9.out x hx))
                    clear hHeld SC
                    go_wp2_with fail
                    go_ret
                    refine ⟨_, rfl, y, .slice (some ⟨lg, 0, none⟩) (Kn + 1) lc, .slice (some ⟨mg, 0, none⟩) (Kn + 1) mc, rfl, HY.out, (HCW.out.wide).trans1 C9, by rw [show gvR mkHr (hF d v0) k = RR from HRR.out]; exact BO2, ?_⟩
                    rw [show gvR mkHr (hF d v0) k = RR from HRR.out]
                    exact Gv.more HG1.out (by decide) (by decide) C9 HL1.out HL2.out HJ.out GB2 LA2 LB3 (by rw [ob_slice, ob_slice]; intro x hx hx'; simp at hx hx'; exact DJ2 (hx.symm.trans hx')) (by have := HIM.out; omega) BO2 ⟨ownsRow_base OX2.1 HBV.out, OX2.2⟩
                  exact AllReadyH.nil
                exact AllReadyH.nil
              exact AllReadyH.nil
            exact AllReadyH.nil
          refine AllReadyH.cons (o := _) rfl (fun K hK => ?_) ?_
          ·
            go_simp
            refine (CopyShares_s (.slice (some ⟨y, 0, none⟩) i i) i RR _ HI0.out HIM.out ⟨HOK.out, Or.inr ⟨y, 0, i, rfl, Nat.le_refl _, by have := HIM.out; omega, BO1.lt, fun j hj => by rw [Nat.zero_add]; exact BO1.rangeRw HOK.out hj⟩⟩).mono ?_
            rintro e v7 ⟨xg, xc, rfl, OX, k7⟩
            go_wp2_with fail
            refine hK.out _ _ (hHeld.trans1 k7.wide) (fun hHeld => ?_)
            clear hK K
            try simp only [Act.put, sA1, sA2, sA3]
            replace GB := GB.chg k7 (by simp)
            replace BO1 := BO1.chg k7 (by simp)
            replace LA1 := ownsRow_chg LA1 k7 (by simp)
            replace LB2 := ownsRow_chg LB2 k7 (by simp)
            have bv7 : base ≤ v7.heap.size := Nat.le_trans HBV.out k7.size
            have lglt : lg < v7.heap.size := by obtain ⟨C, hC⟩ := ownsRow_blk LA1 (k := lg) (by rw [ob_slice]; simp); exact hC.lt
            have xg9 : ¬ xg ∈ ob lb0 := fun hx => by obtain ⟨C, hC⟩ := ownsRow_blk LB2 hx; obtain ⟨D, hD⟩ := ownR_blk OX (k := xg) (by rw [ob_slice]; simp); exact hD.ne hC (by decide) rfl
            have xgg : ¬ xg = gb := by obtain ⟨D, hD⟩ := ownR_blk OX (k := xg) (by rw [ob_slice]; simp); exact hD.ne GB (by decide)
            clear k7
            refine wpAnyH_ready (rs := [4, 7]) (by kernel_rfl) (by simp) ?_
            refine AllReadyH.cons (o := _) rfl (fun K hK => ?_) ?_
            ·
              have cg := GB.cell 17
              rw [gvC_get _ _ (by decide), upV_other _ _ _ _ (by decide), show G 17 = lb0 from HLB0.out] at cg
              rw [if_pos (by rfl)]
              go_simp
              refine hK.out _ _ (hHeld) (fun hHeld => ?_)
              clear hK K
              try simp only [Act.put, sA1, sA2, sA3]
              refine wpAnyH_ready (rs := [7]) (by kernel_rfl) (by simp) ?_
              refine AllReadyH.cons (o := _) rfl (fun K hK => ?_) ?_
              ·
                rw [if_pos (by rfl)]
                go_simp
                refine hK.out _ _ (hHeld.alloc _) (fun hHeld => ?_)
                clear hK K
                try simp only [Act.put, sA1, sA2, sA3]
                have AL := Blk.new v7 #[.slice (some ⟨xg, 0, none⟩) i xc] 49
                replace GB := GB.alloc (.cells #[.slice (some ⟨xg, 0, none⟩) i xc] 49)
                replace BO1 := BO1.alloc (.cells #[.slice (some ⟨xg, 0, none⟩) i xc] 49)
                replace LA1 := LA1.alloc (.cells #[.slice (some ⟨xg, 0, none⟩) i xc] 49)
                replace LB2 := LB2.alloc (.cells #[.slice (some ⟨xg, 0, none⟩) i xc] 49)
                replace OX := OX.chg ((Chg.refl v7 []).alloc (.cells #[.slice (some ⟨xg, 0, none⟩) i xc] 49)) (by simp)
                refine wpAnyH_ready (rs := [8]) (by kernel_rfl) (by simp) ?_
                refine AllReadyH.cons (o := _) rfl (fun K hK => ?_) ?_
                ·
                  rw [if_pos (by rfl)]
                  refine wp_append_lies _ (.tmp 50) (.tmp 53) 34 rfl base 49 inf (.slice none 0 0) 1 24 Tryz.underlying34 hinf hz hs1 hs2 rfl (by decide) lb0 Kn us rfl LB2 ⟨v7.heap.size, 0, none⟩ 1 1 [.slice (some ⟨xg, 0, none⟩) i xc] rfl rfl (fun j u hj => add_cell (by rw [Nat.zero_add, AL.cell]; simpa using hj)) (by simp [Value.oneCell']) (by decide) H63.out HBY.out (by simp; omega) (v7.heap.size + 1) (by simp) ?_
                  intro mg mc w8 O8 G8 hat8 hlt8
                  replace G8 := Chg.grown G8
                  have DJ2 : ¬ lg = mg := by
                    rcases hat8 with h | h
                    · intro e; exact DJ (by simp [ob, h, e])
                    · omega
                  refine hK.out _ _ (hHeld.trans1 (G8.incl (fun x hx => List.mem_cons_of_mem _ hx))) (fun hHeld => ?_)
                  clear hK K
                  try simp only [Act.put, sA1, sA2, sA3]
                  replace GB := GB.chg G8 g9
                  replace BO1 := BO1.chg G8 y9
                  replace LA1 := ownsRow_chg LA1 G8 (by rw [ob_slice]; simpa using DJ)
                  replace OX := OX.chg G8 (by rw [ob_slice]; simpa using xg9)
                  have mgg : ¬ mg = gb := by obtain ⟨C, hC⟩ := ownsRow_blk O8 (k := mg) (by rw [ob_slice]; simp); exact hC.ne GB (by decide)
                  clear G8 AL hat8 hlt8 LB2
                  refine tv (v := ?_) 9 (some 55) rfl (by kernel_rfl) (fun _ _ _ h => h) rfl rfl (fun w hSw => ?_) hHeld ?_; rotate_left; (· (go_simp; try with_reducible rfl)); try simp only [Act.put, sA1, sA2, sA3]
                  refine tv (v := ?_) 10 (some 56) rfl (by kernel_rfl) (fun _ _ _ h => h) rfl rfl (fun w hSw => ?_) hHeld ?_; rotate_left; (· (go_simp; try with_reducible rfl)); try simp only [Act.put, sA1, sA2, sA3]
                  refine wpAnyH_ready (rs := [11]) (by kernel_rfl) (by simp) ?_
                  refine AllReadyH.cons (o := _) rfl (fun K hK => ?_) ?_
                  ·
                    have cg := GB.cell 17
                    rw [gvC_get _ _ (by decide), upV_other _ _ _ _ (by decide), show G 17 = lb0 from HLB0.out] at cg
                    have fg := GB.frozen 17
                    rw [if_pos (by rfl)]
                    go_simp
                    refine hK.out _ _ (hHeld.setIn (by simp) _ _) (fun hHeld => ?_)
                    clear hK K
                    try simp only [Act.put, sA1, sA2, sA3]
                    refine wpAnyH_done (by kernel_rfl) ?_ _
                    have GB2 := (GB.setCell 17 (.slice (some ⟨mg, 0, none⟩) (Kn + 1) mc)).to (gvC_set _ _ _)
                    have SC := (Chg.refl w8 [gb]).setIn (k := gb) (by simp) 17 (.slice (some ⟨mg, 0, none⟩) (Kn + 1) mc)
                    have BO2 := BO1.chg SC (by simpa using yg)
                    have LA2 := ownsRow_chg LA1 SC (by rw [ob_slice]; simpa using lgg)
                    have LB3 := ownsRow_chg O8 SC (by rw [ob_slice]; simpa using mgg)
                    have OX2 := OX.chg SC (by rw [ob_slice]; simpa using xgg)
                    have C9 := CV.trans hHeld (fun x hx => Or.inl (HIN9.out x hx))
                    clear hHeld SC
                    go_wp2_with fail
                    go_ret
                    refine ⟨_, rfl, y, .slice (some ⟨lg, 0, none⟩) (Kn + 1) lc, .slice (some ⟨mg, 0, none⟩) (Kn + 1) mc, rfl, HY.out, (HCW.out.wide).trans1 C9, by rw [show gvR mkHr (hF d v0) k = RR from HRR.out]; exact BO2, ?_⟩
                    rw [show gvR mkHr (hF d v0) k = RR from HRR.out]
                    exact Gv.more HG1.out (by decide) (by decide) C9 HL1.out HL2.out HJ.out GB2 LA2 LB3 (by rw [ob_slice, ob_slice]; intro x hx hx'; simp at hx hx'; exact DJ2 (hx.symm.trans hx')) (by have := HIM.out; omega) BO2 ⟨ownsRow_base OX2.1 HBV.out, OX2.2⟩
                  exact AllReadyH.nil
                exact AllReadyH.nil
              exact AllReadyH.nil
            refine AllReadyH.cons (o := _) rfl (fun K hK => ?_) ?_
            ·
              rw [if_pos (by rfl)]
              go_simp
              refine hK.out _ _ (hHeld.alloc _) (fun hHeld => ?_)
              clear hK K
              try simp only [Act.put, sA1, sA2, sA3]
              have AL := Blk.new v7 #[.slice (some ⟨xg, 0, none⟩) i xc] 49
              replace GB := GB.alloc (.cells #[.slice (some ⟨xg, 0, none⟩) i xc] 49)
              replace BO1 := BO1.alloc (.cells #[.slice (some ⟨xg, 0, none⟩) i xc] 49)
              replace LA1 := LA1.alloc (.cells #[.slice (some ⟨xg, 0, none⟩) i xc] 49)
              replace LB2 := LB2.alloc (.cells #[.slice (some ⟨xg, 0, none⟩) i xc] 49)
              replace OX := OX.chg ((Chg.refl v7 []).alloc (.cells #[.slice (some ⟨xg, 0, none⟩) i xc] 49)) (by simp)
              refine wpAnyH_ready (rs := [4]) (by kernel_rfl) (by simp) ?_
              refine AllReadyH.cons (o := _) rfl (fun K hK => ?_) ?_
              ·
                have cg := GB.cell 17
                rw [gvC_get _ _ (by decide), upV_other _ _ _ _ (by decide), show G 17 = lb0 from HLB0.out] at cg
                rw [if_pos (by rfl)]
                go_simp
                refine hK.out _ _ (hHeld) (fun hHeld => ?_)
                clear hK K
                try simp only [Act.put, sA1, sA2, sA3]
                refine wpAnyH_ready (rs := [8]) (by kernel_rfl) (by simp) ?_
                refine AllReadyH.cons (o := _) rfl (fun K hK => ?_) ?_
                ·
                  rw [if_pos (by rfl)]
                  refine wp_append_lies _ (.tmp 50) (.tmp 53) 34 rfl base 49 inf (.slice none 0 0) 1 24 Tryz.underlying34 hinf hz hs1 hs2 rfl (by decide) lb0 Kn us rfl LB2 ⟨v7.heap.size, 0, none⟩ 1 1 [.slice (some ⟨xg, 0, none⟩) i xc] rfl rfl (fun j u hj => add_cell (by rw [Nat.zero_add, AL.cell]; simpa using hj)) (by simp [Value.oneCell']) (by decide) H63.out HBY.out (by simp; omega) (v7.heap.size + 1) (by simp) ?_
                  intro mg mc w8 O8 G8 hat8 hlt8
                  replace G8 := Chg.grown G8
                  have DJ2 : ¬ lg = mg := by
                    rcases hat8 with h | h
                    · intro e; exact DJ (by simp [ob, h, e])
                    · omega
                  refine hK.out _ _ (hHeld.trans1 (G8.incl (fun x hx => List.mem_cons_of_mem _ hx))) (fun hHeld => ?_)
                  clear hK K
                  try simp only [Act.put, sA1, sA2, sA3]
                  replace GB := GB.chg G8 g9
                  replace BO1 := BO1.chg G8 y9
                  replace LA1 := ownsRow_chg LA1 G8 (by rw [ob_slice]; simpa using DJ)
                  replace OX := OX.chg G8 (by rw [ob_slice]; simpa using xg9)
                  have mgg : ¬ mg = gb := by obtain ⟨C, hC⟩ := ownsRow_blk O8 (k := mg) (by rw [ob_slice]; simp); exact hC.ne GB (by decide)
                  clear G8 AL hat8 hlt8 LB2
                  refine tv (v := ?_) 9 (some 55) rfl (by kernel_rfl) (fun _ _ _ h => h) rfl rfl (fun w hSw => ?_) hHeld ?_; rotate_left; (· (go_simp; try with_reducible rfl)); try simp only [Act.put, sA1, sA2, sA3]
                  refine tv (v := ?_) 10 (some 56) rfl (by kernel_rfl) (fun _ _ _ h => h) rfl rfl (fun w hSw => ?_) hHeld ?_; rotate_left; (· (go_simp; try with_reducible rfl)); try simp only [Act.put, sA1, sA2, sA3]
                  refine wpAnyH_ready (rs := [11]) (by kernel_rfl) (by simp) ?_
                  refine AllReadyH.cons (o := _) rfl (fun K hK => ?_) ?_
                  ·
                    have cg := GB.cell 17
                    rw [gvC_get _ _ (by decide), upV_other _ _ _ _ (by decide), show G 17 = lb0 from HLB0.out] at cg
                    have fg := GB.frozen 17
                    rw [if_pos (by rfl)]
                    go_simp
                    refine hK.out _ _ (hHeld.setIn (by simp) _ _) (fun hHeld => ?_)
                    clear hK K
                    try simp only [Act.put, sA1, sA2, sA3]
                    refine wpAnyH_done (by kernel_rfl) ?_ _
                    have GB2 := (GB.setCell 17 (.slice (some ⟨mg, 0, none⟩) (Kn + 1) mc)).to (gvC_set _ _ _)
                    have SC := (Chg.refl w8 [gb]).setIn (k := gb) (by simp) 17 (.slice (some ⟨mg, 0, none⟩) (Kn + 1) mc)
                    have BO2 := BO1.chg SC (by simpa using yg)
                    have LA2 := ownsRow_chg LA1 SC (by rw [ob_slice]; simpa using lgg)
                    have LB3 := ownsRow_chg O8 SC (by rw [ob_slice]; simpa using mgg)
                    have OX2 := OX.chg SC (by rw [ob_slice]; simpa using xgg)
                    have C9 := CV.trans hHeld (fun x hx => Or.inl (HIN9.out x hx))
                    clear hHeld SC
                    go_wp2_with fail
                    go_ret
                    refine ⟨_, rfl, y, .slice (some ⟨lg, 0, none⟩) (Kn + 1) lc, .slice (some ⟨mg, 0, none⟩) (Kn + 1) mc, rfl, HY.out, (HCW.out.wide).trans1 C9, by rw [show gvR mkHr (hF d v0) k = RR from HRR.out]; exact BO2, ?_⟩
                    rw [show gvR mkHr (hF d v0) k = RR from HRR.out]
                    exact Gv.more HG1.out (by decide) (by decide) C9 HL1.out HL2.out HJ.out GB2 LA2 LB3 (by rw [ob_slice, ob_slice]; intro x hx hx'; simp at hx hx'; exact DJ2 (hx.symm.trans hx')) (by have := HIM.out; omega) BO2 ⟨ownsRow_base OX2.1 HBV.out, OX2.2⟩
                  exact AllReadyH.nil
                exact AllReadyH.nil
              exact AllReadyH.nil
            exact AllReadyH.nil
          exact AllReadyH.nil
end Go.Proofs.YtoafcaieifjoiaaGreat
