/- Joined: GvInts, GvIN, ShR1. -/
import Derived.Test.YtemjpibmefggnaaGreatMgF
import Derived.Test.YtemjpibmefggnaaGreatMgO
import Derived.Test.YtemjpibmefggnaaGreatMgD
import Derived.Test.YtemjpibmefggnaaGreatMgC
import Derived.Test.YtemjpibmefggnaaGreatMgK
import Derived.Test.YtemjpibmefggnaaGreatRBack
/- rimeplain: markInts, CopyInts, (*Given).Ints. -/
set_option linter.unusedVariables false
set_option linter.unusedSimpArgs false
set_option linter.unnecessarySimpa false
namespace Go.Proofs.YtemjpibmefggnaaGreat
open Go.RowKit N

/-- The mark of list 987 at place k. -/
def mkJ (k : Nat) : Int := -98802965 - 7 * (k : Int)
theorem markInts_9 (k : Nat) (hk : k ≤ 17592186044416) (w : World) : Calls Tryz.prog 43 #[.int .i64 987, .int .i64 (k : Int)] w fun e w' => e = .returned (.int .i64 (mkJ k)) ∧ w' = w := by
  have e1 : IntKind.i64.wrap (7 * (k : Int)) = 7 * (k : Int) := by rw [IntKind.wrap_i64]; omega
  have e2 : IntKind.i64.wrap (-98802965 - 7 * (k : Int)) = mkJ k := by rw [IntKind.wrap_i64]; unfold mkJ; omega
  clear hk
  go_enter Tryz.func43, Tryz.ntmps43
  go_wp2_with fail
  go_ret
  exact ⟨rfl, rfl⟩
theorem mkJ_ok (i : Nat) : (iF mkJ i).length = 1 ∧ ∀ v ∈ iF mkJ i, v.oneCell' = true := iF_ok (i + 1) mkJ i (by omega)
theorem catR_zeroI (F G : Nat → List Value) : catR F 0 G = G := by funext j; unfold catR; rw [if_neg (by omega), Nat.sub_zero]
set_option maxHeartbeats 4000000 in
set_option maxRecDepth 100000 in
theorem CopyInts_s (v : Value) (n : Nat) (F : Nat → List Value) (w : World) (h0 : 0 < n) (hn : n ≤ 17592186044416) (hv : Rl w 1 v n F) :
    Calls Tryz.prog 44 #[v] w fun e w' => ∃ g cap, e = .returned (.slice (some ⟨g, 0, none⟩) n cap) ∧ OwnR w' w.heap.size 3 1 (.slice (some ⟨g, 0, none⟩) n cap) n F ∧ Chg w w' [] := by
  obtain ⟨inf, hinf, hz, hs1, hs2⟩ := intRowS
  go_enter Tryz.func44, Tryz.ntmps44
  go_wp2_with (refine wpList_append_r rfl (.tmp 4) (.tmp 5) 25 rfl 3 inf (.int .i64 0) 1 8 Tryz.underlying25 hinf hz hs1 hs2 rfl (by omega) w.heap.size (.slice none 0 0) v 0 n F F rfl rfl (OwnR.nil _ _ _ _ F) hv h0 (by omega) (by omega) (Nat.le_refl _) ?_; intro g cap w1 O1 q1 _ _; rw [Nat.zero_add, catR_zeroI] at O1; rw [Nat.zero_add]; replace q1 : Chg w w1 [] := q1)
  go_ret
  exact ⟨g, cap, rfl, O1, q1⟩
theorem listRowJ : ∃ i, Tryz.prog.info? 25 = some i ∧ i.zero = some (.slice none 0 0) ∧ i.size = 1 ∧ i.bytes = 24 := by
  have h : (Tryz.prog.info? 25).map (fun i => (i.zero, i.size, i.bytes)) = some (some (.slice none 0 0), 1, 24) := by kernel_rfl
  cases hi : Tryz.prog.info? 25 with
  | none => rw [hi] at h; simp at h
  | some i => rw [hi] at h; simp at h; exact ⟨i, rfl, h.1, h.2.1, h.2.2⟩
theorem make_ibw {w : World} {ops : Array Oper} {rest : List Oper} {op : Oper} {a : Act} {Q : Exit → Act → World → Prop} (hgd : op.guard = none) (x y : Operand) (ho : op.op = .makeSlice 25 x y) (r : Nat) (hr : r ≤ 17592186044416) (hx : a.eval x = .int .i64 (r : Int)) (hy : a.eval y = .int .i64 (r : Int))
    (h : ∀ g w', w.heap.size ≤ g → Ib w' g r (fun _ => 0) → Chg w w' [] → wpList Tryz.prog ops Q rest (a.put op.dst (.slice (some ⟨g, 0, none⟩) r r)) w') : wpList Tryz.prog ops Q (op :: rest) a w := by
  obtain ⟨i, hi, hz, h1, h2⟩ := intRowS
  have hm := run_make (P := Tryz.prog) w 25 3 i (.int .i64 0) Tryz.underlying25 hi hz .i64 .i64 (r : Int) (r : Int) (by omega) (by omega) (by rw [h2]; omega) (by omega)
  rw [h1, Int.toNat_natCast] at hm
  have hB : Ib (w.alloc (.cells (madeCells #[.int .i64 0] (r * 1)) 3)) w.heap.size r (fun _ => 0) := by
    rw [made_r #[.int .i64 0] 1 r rfl]
    exact Blk.new w _ _
  refine wpList_plain hgd fun K hK => ?_
  unfold Oper.wp execOp
  simp only [ho, hx, hy, Sem.run_bind, hm, Sem.run_pure, Result.andThen_ok]
  exact hK _ _ (h _ _ (Nat.le_refl _) hB ((Chg.refl w []).alloc _))
/-- What Ints answers and leaves. -/
def GvN (w w' : World) (gb base n m : Nat) (f : Nat → Int) (G : Nat → Value) (Kn : Nat) (N : Nat → Nat) (F : Nat → Nat → List Value) (r : Value) : Prop :=
  ∃ o la lb, r = .slice (some ⟨o, 0, none⟩) n m ∧ w.heap.size ≤ o ∧ Chg w w' (gch gb G 2) ∧ Blk w' o (rL 1 m (gvR (iF mkJ) (iF f) n)).toArray 3 ∧
    Gv w' gb base (upV (upV G 2 la) (2 + 1) lb) 2 42 25 3 1 (Kn + 1) (fun j => if j = Kn then m else N j) (fun j => if j = Kn then gvR (iF mkJ) (iF f) n else F j)
theorem upS_step2 (f g : Nat → Int) (k j : Nat) : upS (fun j => if j < k then f j else g j) k (f k) j = if j < k + 1 then f j else g j := by
  unfold upS
  by_cases h : j = k
  · subst h; simp
  · by_cases h2 : j < k
    · rw [if_neg h, if_pos (show j < k + 1 by omega)]; exact if_pos h2
    · rw [if_neg h, if_neg (show ¬ j < k + 1 by omega)]; exact if_neg h2
set_option maxHeartbeats 8000000 in
set_option maxRecDepth 100000 in
theorem GivenInts_s (gb n base Kn : Nat) (v : Value) (f : Nat → Int) (G : Nat → Value) (N : Nat → Nat) (F : Nat → Nat → List Value) (w : World) (hn : n ≤ 17592186044400) (hK : Kn ≤ 1000) (hbase : base ≤ w.heap.size) (hv : Il w v n f)
    (hg : Gv w gb base G 2 42 25 3 1 Kn N F) :
    Calls Tryz.prog 12 #[.pointer (some ⟨gb, 0, none⟩), v] w fun e w' => ∃ r, e = .returned r ∧ GvN w w' gb base n (n + 3) f G Kn N F r := by
  obtain ⟨vp, vc, rfl, hp⟩ := hv.form
  obtain ⟨m, hm⟩ : ∃ m, n + 3 = m := ⟨_, rfl⟩
  have HM : Hid (n + 3 = m) := hm
  have e1 : IntKind.i64.wrap ((n : Int) + 3) = (m : Int) := by rw [IntKind.wrap_i64]; omega
  have hnm : n < m := by omega
  have hmb : m ≤ 17592186044403 := by omega
  have HMB : Hid (m ≤ 17592186044416) := by show m ≤ 17592186044416; omega
  rw [hm]
  clear hm hn hv
  go_enter Tryz.func12, Tryz.ntmps12
  go_wp2_with (with_reducible refine make_ibw rfl (.tmp 10) (.tmp 10) rfl m HMB.out ?_ ?_ ?_
               · rfl
               · rfl
               intro y w0 hy I0 C1)
  have HY : Hid (w.heap.size ≤ y) := hy
  have B1 : Ib w0 y m (fun j => if j < 0 then mkJ j else 0) := I0.congr (fun j _ => (if_neg (by omega)).symm)
  clear I0 hy
  go_loopw [6] (fun t wr => ∃ i : Nat, i ≤ m ∧ t = .int .i64 (i : Int) ∧ Ib wr y m (fun j => if j < i then mkJ j else 0) ∧ Chg w wr []) (fun t _ => ((m : Int) - intOf t).toNat)
  case atStart => exact ⟨0, by omega, rfl, B1, C1⟩
  case round =>
    clear B1 C1
    obtain ⟨i, hi, rfl, b0, c0⟩ := hrel
    by_cases h8 : i < m
    · have hI : (i : Int) < (m : Int) := by omega
      have hI0 : (0 : Int) ≤ (i : Int) := by omega
      have HI : Hid (i < m) := h8
      have HI1 : Hid (i ≤ 17592186044416) := by show i ≤ 17592186044416; omega
      have e2 : IntKind.i64.wrap ((i : Int) + 1) = (i : Int) + 1 := by rw [IntKind.wrap_i64]; omega
      have HJ : Hid (((m : Int) - intOf (.int .i64 ((i : Int) + 1))).toNat < ((m : Int) - intOf (.int .i64 (i : Int))).toNat) := by show ((m : Int) - intOf (.int .i64 ((i : Int) + 1))).toNat < ((m : Int) - intOf (.int .i64 (i : Int))).toNat; simp [intOf]; omega
      clear h8 hi hp hg hnm hmb hbase hK HM
      go_wp2_with fail
      refine (markInts_9 i HI1.out _).mono ?_
      rintro e v1 ⟨rfl, rfl⟩
      go_wp2_with (with_reducible refine store_ib ?_ (.tmp 22) (.tmp 21) ?_ y m i _ (mkJ i) ?_ ?_ b0 HI.out ?_
                   · rfl
                   · rfl
                   · rfl
                   · rfl
                   intro w2 b2 c2)
      exact ⟨⟨i + 1, HI.out, by go_num, b2.congr (fun j _ => upS_step mkJ i j), c0.new c2 HY.out⟩, HJ.out⟩
    · have h9 : i = m := by omega
      subst h9
      have hI : ¬ (i : Int) < (i : Int) := by omega
      go_wp2_with fail
      have B2 : Ib wr y i (fun j => if j < 0 then f j else mkJ j) := b0.congr (fun j hj => by rw [if_pos hj, if_neg (by omega)])
      clear b0
      go_loopw [7] (fun t wr => ∃ k : Nat, k ≤ n ∧ t = .int .i64 (k : Int) ∧ Ib wr y i (fun j => if j < k then f j else mkJ j) ∧ Chg w wr []) (fun t _ => ((n : Int) - intOf t).toNat)
      case atStart => exact ⟨0, by omega, rfl, B2, c0⟩
      case round =>
        clear B2 c0
        obtain ⟨k, hk, rfl, b0, c0⟩ := hrel
        by_cases h8 : k < n
        · have hI1 : (k : Int) < (n : Int) := by omega
          have hI2 : (k : Int) < (i : Int) := by omega
          have HK1 : Hid (k + 1 ≤ n) := by show k + 1 ≤ n; omega
          have e2 : IntKind.i64.wrap ((k : Int) + 1) = (k : Int) + 1 := by rw [IntKind.wrap_i64]; omega
          have HJ : Hid (((n : Int) - intOf (.int .i64 ((k : Int) + 1))).toNat < ((n : Int) - intOf (.int .i64 (k : Int))).toNat) := by show ((n : Int) - intOf (.int .i64 ((k : Int) + 1))).toNat < ((n : Int) - intOf (.int .i64 (k : Int))).toNat; simp [intOf]; omega
          obtain ⟨g, o, rfl, hgl, hr0⟩ := hp k h8
          have hr := cell_chg hr0 hgl c0 (by simp)
          have HKI : Hid (k < i) := by show k < i; omega
          clear h8 hk hp hr0 hnm hmb hg hbase hK HM
          go_wp2_with (with_reducible refine store_ib ?_ (.tmp 35) (.tmp 34) ?_ y i k _ (f k) ?_ ?_ b0 HKI.out ?_
                       · rfl
                       · rfl
                       · rfl
                       · rfl
                       intro w2 b2 c2)
          exact ⟨⟨k + 1, HK1.out, by go_num, b2.congr (fun j _ => upS_step2 f mkJ k j), c0.new c2 HY.out⟩, HJ.out⟩
        · have h9 : k = n := by omega
          subst h9
          have hI1 : ¬ (k : Int) < (k : Int) := by omega
          have b0 : Blk wr y (rL 1 i (gvR (iF mkJ) (iF f) k)).toArray 3 := Blk.to b0 (congrArg List.toArray (rL_congr fun j _ => by unfold gvR iF; by_cases h : j < k <;> simp [h]))
          obtain ⟨RR, hRR⟩ : ∃ RR, gvR (iF mkJ) (iF f) k = RR := ⟨_, rfl⟩
          have HRR : Hid (gvR (iF mkJ) (iF f) k = RR) := hRR
          have HOK : Hid (Rok 1 i RR) := hRR ▸ gvR_ok mkJ_ok (iF_ok k f) k (Nat.le_refl _)
          have BO : Blk wr y (rL 1 i RR).toArray 3 := hRR ▸ b0
          have HCW : Hid (Chg w wr []) := c0
          have HG1 : Hid (Gv wr gb base G 2 42 25 3 1 Kn N F) := hg.chg c0
          have hg1 := HG1.out
          have ybs : base ≤ wr.heap.size := Nat.le_trans hbase c0.size
          obtain ⟨vs, us, l1, l2, hd, hj⟩ := hg1.lists
          have HJ : Hid (∀ j, j < Kn → ∃ o x, vs[j]? = some (.slice (some ⟨o, 0, none⟩) (N j) (N j)) ∧ us[j]? = some x ∧ N j ≤ 9223372036854775807 ∧ Blk wr o (rL 1 (N j) (F j)).toArray 3 ∧ OwnR wr base 3 1 x (N j) (F j)) := hj
          have HL1 : Hid (wr.ownsRow base 25 1 (G 2) Kn vs) := l1
          have HL2 : Hid (wr.ownsRow base 25 1 (G (2 + 1)) Kn us) := l2
          have g8 : ¬ gb ∈ ob (G 2) := fun hx => by obtain ⟨C, hC⟩ := ownsRow_blk l1 hx; exact hg1.gb.ne hC (by decide) rfl
          have g9 : ¬ gb ∈ ob (G (2 + 1)) := fun hx => by obtain ⟨C, hC⟩ := ownsRow_blk l2 hx; exact hg1.gb.ne hC (by decide) rfl
          have y8 : ¬ y ∈ ob (G 2) := fun hx => by obtain ⟨C, hC⟩ := ownsRow_blk l1 hx; exact BO.ne hC (by decide) rfl
          have y9 : ¬ y ∈ ob (G (2 + 1)) := fun hx => by obtain ⟨C, hC⟩ := ownsRow_blk l2 hx; exact BO.ne hC (by decide) rfl
          have yg : ¬ y = gb := BO.ne hg1.gb (by decide)
          have HCH : Hid (gch gb G 2 = gb :: (ob (G 2) ++ ob (G (2 + 1)))) := rfl
          have GB00 := hg1.gb
          obtain ⟨la0, hla0⟩ : ∃ v, G 2 = v := ⟨_, rfl⟩
          obtain ⟨lb0, hlb0⟩ : ∃ v, G (2 + 1) = v := ⟨_, rfl⟩
          rw [hla0] at g8 y8 l1 hd
          rw [hlb0] at g9 y9 l2 hd
          have cg0 : wr.cell? ⟨gb, 2, none⟩ = some la0 := by rw [GB00.cell, gvC_get _ _ (by decide), hla0]
          have HLA0 : Hid (G 2 = la0) := hla0
          have HLB0 : Hid (G (2 + 1) = lb0) := hlb0
          have HI0 : Hid (0 < i) := by show 0 < i; omega
          have HIM : Hid (i ≤ 17592186044416) := by show i ≤ 17592186044416; omega
          have hki : (k : Int) ≤ (i : Int) := by omega
          obtain ⟨inf, hinf, hz, hs1, hs2⟩ := listRowJ
          have AL := Blk.new wr #[.slice (some ⟨y, 0, none⟩) i i] 25
          have HNW : Hid (∀ j u, ([.slice (some ⟨y, 0, none⟩) i i] : List Value)[j]? = some u → (wr.alloc (.cells #[.slice (some ⟨y, 0, none⟩) i i] 25)).cell? ((⟨wr.heap.size, 0, none⟩ : Addr).add j) = some u) := by
            intro j u hj
            refine add_cell ?_
            rw [Nat.zero_add, AL.cell]
            simpa using hj
          have HLA : Hid ((wr.alloc (.cells #[.slice (some ⟨y, 0, none⟩) i i] 25)).ownsRow base 25 1 la0 Kn vs) := l1.alloc _
          have H63 : Hid (Kn + 1 ≤ maxLen) := by show Kn + 1 ≤ maxLen; simp only [maxLen]; omega
          have HBY : Hid ((Kn + 1) * 24 ≤ 140737488355328) := by show (Kn + 1) * 24 ≤ 140737488355328; omega
          have HBA : Hid (base ≤ (wr.alloc (.cells #[.slice (some ⟨y, 0, none⟩) i i] 25)).heap.size) := by show base ≤ _; simp; omega
          have HON : Hid (∀ u ∈ ([.slice (some ⟨y, 0, none⟩) i i] : List Value), u.oneCell' = true) := by show ∀ u ∈ ([.slice (some ⟨y, 0, none⟩) i i] : List Value), u.oneCell' = true; simp [Value.oneCell']
          have GA := GB00.alloc (.cells #[.slice (some ⟨y, 0, none⟩) i i] 25)
          have BA := BO.alloc (.cells #[.slice (some ⟨y, 0, none⟩) i i] 25)
          have LB1 := l2.alloc (.cells #[.slice (some ⟨y, 0, none⟩) i i] 25)
          have HD0 : Hid (∀ x, x ∈ ob la0 → ¬ x ∈ ob lb0) := hd
          have HLT : Hid (∀ x, x ∈ ob lb0 → x < wr.heap.size) := fun x hx => by obtain ⟨C, hC⟩ := ownsRow_blk l2 hx; exact hC.lt
          have CA := (Chg.refl wr (gch gb G 2)).alloc (.cells #[.slice (some ⟨y, 0, none⟩) i i] 25)
          have HIN : Hid (∀ x, x ∈ ob la0 → x ∈ gch gb G 2) := fun x hx => by rw [HCH.out, hla0]; simp [hx]
          have HIN9 : Hid (∀ x, x ∈ gb :: ob lb0 → x ∈ gch gb G 2) := fun x hx => by rw [HCH.out, hlb0]; simp only [List.mem_cons, List.mem_append] at hx ⊢; rcases hx with h | h <;> simp [h]
          have HGI : Hid (gb ∈ gch gb G 2) := List.mem_cons_self
          have wasz : (wr.alloc (.cells #[.slice (some ⟨y, 0, none⟩) i i] 25)).heap.size = wr.heap.size + 1 := by simp
          clear hRR b0 hp hg hj hd AL l1 l2 BO hg1 GB00 c0 hla0 hlb0 hnm hmb hk h8 hK
          go_wp2_with (with_reducible refine wpList_append_lies _ ?_ (.tmp 40) (.tmp 42) 27 ?_ base 25 inf (.slice none 0 0) 1 24 Tryz.underlying27 hinf hz hs1 hs2 ?_ ?_ la0 Kn vs ?_ HLA.out ⟨wr.heap.size, 0, none⟩ 1 1 [.slice (some ⟨y, 0, none⟩) i i] ?_ ?_ HNW.out HON.out ?_ H63.out HBY.out HBA.out (wr.heap.size + 1) ?_ ?_
                       · rfl
                       · rfl
                       · rfl
                       · decide
                       · rfl
                       · rfl
                       · rfl
                       · decide
                       · exact wasz
                       intro lg lc w1 O1 G1 hat hlt
                       replace G1 := Chg.grown G1
                       have GB0 := GA.chg G1 g8
                       have cgb : w1.cell? ⟨gb, 2, none⟩ = some la0 := by rw [GB0.cell, gvC_get _ _ (by decide)]; exact congrArg some HLA0.out
                       have fgb := GB0.frozen 2)
          have lgg : ¬ lg = gb := by obtain ⟨C, hC⟩ := ownsRow_blk O1 (k := lg) (by rw [ob_slice]; simp); exact hC.ne GB0 (by decide)
          have DJ : ¬ lg ∈ ob lb0 := by
            rcases hat with h | h
            · exact HD0.out lg (by simp [ob, h])
            · intro hx
              have := HLT.out lg hx
              omega
          have GB := (GB0.setCell 2 (.slice (some ⟨lg, 0, none⟩) (Kn + 1) lc)).to (gvC_set _ _ _)
          have BO1 := (BA.chg G1 y8).setOther yg 2 (.slice (some ⟨lg, 0, none⟩) (Kn + 1) lc)
          have SV := (Chg.refl w1 [gb]).setIn (k := gb) (by simp) 2 (.slice (some ⟨lg, 0, none⟩) (Kn + 1) lc)
          have LA1 := ownsRow_chg O1 SV (by rw [ob_slice]; simpa using lgg)
          have LB2 := ownsRow_chg (ownsRow_chg LB1 G1 (fun x hx hx' => HD0.out x hx' hx)) SV (fun x hx he => g9 (by simp at he; exact he ▸ hx))
          have CV := (CA.trans G1 (fun x hx => Or.inl (HIN.out x hx))).setIn HGI.out 2 (.slice (some ⟨lg, 0, none⟩) (Kn + 1) lc)
          have bV : base ≤ (w1.setCell ⟨gb, 2, none⟩ (.slice (some ⟨lg, 0, none⟩) (Kn + 1) lc)).heap.size := Nat.le_trans ybs CV.size
          clear SV cgb fgb GB0 O1 G1 GA BA LB1 CA HLA HNW HON HBA wasz cg0 hat hlt HD0 HLT HIN
          generalize w1.setCell ⟨gb, 2, none⟩ (.slice (some ⟨lg, 0, none⟩) (Kn + 1) lc) = V at *
          have HBV : Hid (base ≤ V.heap.size) := bV
          refine wp_region_held_drew (S := fun w' => Chg V w' (gb :: ob lb0)) (by kernel_rfl) ((Chg.refl V _).drew) (fun hHeld => ?_)
          replace GB := GB.drew
          replace BO1 := BO1.drew
          replace LA1 := ownsRow_chg LA1 ((Chg.refl V []).drew) (by simp)
          replace LB2 := ownsRow_chg LB2 ((Chg.refl V []).drew) (by simp)
          refine take_val (v := ?_) 0 (some 46) rfl (by kernel_rfl) (by kernel_rfl) (by kernel_rfl) (fun _ _ _ h => h) rfl rfl (fun w hSw => ?_) hHeld ?_
          rotate_left
          · (go_simp; try with_reducible rfl)
          try simp only [Act.put, List.setIfInBounds_toArray, List.set_cons_zero, List.set_cons_succ]
          refine take_val (v := ?_) 1 (some 47) rfl (by kernel_rfl) (by kernel_rfl) (by kernel_rfl) (fun _ _ _ h => h) rfl rfl (fun w hSw => ?_) hHeld ?_
          rotate_left
          · (go_simp; try with_reducible rfl)
          try simp only [Act.put, List.setIfInBounds_toArray, List.set_cons_zero, List.set_cons_succ]
          refine take_val (v := ?_) 2 (some 48) rfl (by kernel_rfl) (by kernel_rfl) (by kernel_rfl) (fun _ _ _ h => h) rfl rfl (fun w hSw => ?_) hHeld ?_
          rotate_left
          · (go_simp; try with_reducible rfl)
          try simp only [Act.put, List.setIfInBounds_toArray, List.set_cons_zero, List.set_cons_succ]
          refine take_val (v := ?_) 3 (some 49) rfl (by kernel_rfl) (by kernel_rfl) (by kernel_rfl) (fun _ _ _ h => h) rfl rfl (fun w hSw => ?_) hHeld ?_
          rotate_left
          · (go_simp; try with_reducible rfl)
          try simp only [Act.put, List.setIfInBounds_toArray, List.set_cons_zero, List.set_cons_succ]
          refine take_val (v := ?_) 5 (some 51) rfl (by kernel_rfl) (by kernel_rfl) (by kernel_rfl) (fun _ _ _ h => h) rfl rfl (fun w hSw => ?_) hHeld ?_
          rotate_left
          · (go_simp; try with_reducible rfl)
          try simp only [Act.put, List.setIfInBounds_toArray, List.set_cons_zero, List.set_cons_succ]
          refine wpAnyH_ready (rs := [4, 6]) (by kernel_rfl) (by simp) ?_
          refine AllReadyH.cons (o := _) rfl (fun K hK => ?_) ?_
          ·
            have cg := GB.cell 3
            rw [gvC_get _ _ (by decide), upV_other _ _ _ _ (by decide), show G 3 = lb0 from HLB0.out] at cg
            rw [if_pos (by rfl)]
            go_simp
            refine hK.out _ _ (hHeld) (fun hHeld => ?_)
            clear hK K
            try simp only [Act.put, List.setIfInBounds_toArray, List.set_cons_zero, List.set_cons_succ]
            refine wpAnyH_ready (rs := [6]) (by kernel_rfl) (by simp) ?_
            refine AllReadyH.cons (o := _) rfl (fun K hK => ?_) ?_
            ·
              go_simp
              refine (CopyInts_s (.slice (some ⟨y, 0, none⟩) i i) i RR _ HI0.out HIM.out ⟨HOK.out, Or.inr ⟨y, 0, i, rfl, Nat.le_refl _, by have := HIM.out; omega, BO1.lt, fun j hj => by rw [Nat.zero_add]; exact BO1.rangeRw HOK.out hj⟩⟩).mono ?_
              rintro e v7 ⟨xg, xc, rfl, OX, k7⟩
              go_wp2_with fail
              refine hK.out _ _ (hHeld.trans1 k7.wide) (fun hHeld => ?_)
              clear hK K
              try simp only [Act.put, List.setIfInBounds_toArray, List.set_cons_zero, List.set_cons_succ]
              replace GB := GB.chg k7 (by simp)
              replace BO1 := BO1.chg k7 (by simp)
              replace LA1 := ownsRow_chg LA1 k7 (by simp)
              replace LB2 := ownsRow_chg LB2 k7 (by simp)
              have bv7 : base ≤ v7.heap.size := Nat.le_trans HBV.out k7.size
              have lglt : lg < v7.heap.size := by obtain ⟨C, hC⟩ := ownsRow_blk LA1 (k := lg) (by rw [ob_slice]; simp); exact hC.lt
              have xg9 : ¬ xg ∈ ob lb0 := fun hx => by obtain ⟨C, hC⟩ := ownsRow_blk LB2 hx; obtain ⟨D, hD⟩ := ownR_blk OX (k := xg) (by rw [ob_slice]; simp); exact hD.ne hC (by decide) rfl
              have xgg : ¬ xg = gb := by obtain ⟨D, hD⟩ := ownR_blk OX (k := xg) (by rw [ob_slice]; simp); exact hD.ne GB (by decide)
              clear k7
              refine wpAnyH_ready (rs := [7]) (by kernel_rfl) (by simp) ?_
              refine AllReadyH.cons (o := _) rfl (fun K hK => ?_) ?_
              ·
                rw [if_pos (by rfl)]
                go_simp
                refine hK.out _ _ (hHeld.alloc _) (fun hHeld => ?_)
                clear hK K
                try simp only [Act.put, List.setIfInBounds_toArray, List.set_cons_zero, List.set_cons_succ]
                have AL := Blk.new v7 #[.slice (some ⟨xg, 0, none⟩) i xc] 25
                replace GB := GB.alloc (.cells #[.slice (some ⟨xg, 0, none⟩) i xc] 25)
                replace BO1 := BO1.alloc (.cells #[.slice (some ⟨xg, 0, none⟩) i xc] 25)
                replace LA1 := LA1.alloc (.cells #[.slice (some ⟨xg, 0, none⟩) i xc] 25)
                replace LB2 := LB2.alloc (.cells #[.slice (some ⟨xg, 0, none⟩) i xc] 25)
                replace OX := OX.chg ((Chg.refl v7 []).alloc (.cells #[.slice (some ⟨xg, 0, none⟩) i xc] 25)) (by simp)
                refine wpAnyH_ready (rs := [8]) (by kernel_rfl) (by simp) ?_
                refine AllReadyH.cons (o := _) rfl (fun K hK => ?_) ?_
                ·
                  rw [if_pos (by rfl)]
                  refine wp_append_lies _ (.tmp 50) (.tmp 53) 27 rfl base 25 inf (.slice none 0 0) 1 24 Tryz.underlying27 hinf hz hs1 hs2 rfl (by decide) lb0 Kn us rfl LB2 ⟨v7.heap.size, 0, none⟩ 1 1 [.slice (some ⟨xg, 0, none⟩) i xc] rfl rfl (fun j u hj => add_cell (by rw [Nat.zero_add, AL.cell]; simpa using hj)) (by simp [Value.oneCell']) (by decide) H63.out HBY.out (by simp; omega) (v7.heap.size + 1) (by simp) ?_
                  intro mg mc w8 O8 G8 hat8 hlt8
                  replace G8 := Chg.grown G8
                  have DJ2 : ¬ lg = mg := by
                    rcases hat8 with h | h
                    · intro e; exact DJ (by simp [ob, h, e])
                    · omega
                  refine hK.out _ _ (hHeld.trans1 (G8.incl (fun x hx => List.mem_cons_of_mem _ hx))) (fun hHeld => ?_)
                  clear hK K
                  try simp only [Act.put, List.setIfInBounds_toArray, List.set_cons_zero, List.set_cons_succ]
                  replace GB := GB.chg G8 g9
                  replace BO1 := BO1.chg G8 y9
                  replace LA1 := ownsRow_chg LA1 G8 (by rw [ob_slice]; simpa using DJ)
                  replace OX := OX.chg G8 (by rw [ob_slice]; simpa using xg9)
                  have mgg : ¬ mg = gb := by obtain ⟨C, hC⟩ := ownsRow_blk O8 (k := mg) (by rw [ob_slice]; simp); exact hC.ne GB (by decide)
                  clear G8 AL hat8 hlt8 LB2
                  refine take_val (v := ?_) 9 (some 55) rfl (by kernel_rfl) (by kernel_rfl) (by kernel_rfl) (fun _ _ _ h => h) rfl rfl (fun w hSw => ?_) hHeld ?_
                  rotate_left
                  · (go_simp; try with_reducible rfl)
                  try simp only [Act.put, List.setIfInBounds_toArray, List.set_cons_zero, List.set_cons_succ]
                  refine take_val (v := ?_) 10 (some 56) rfl (by kernel_rfl) (by kernel_rfl) (by kernel_rfl) (fun _ _ _ h => h) rfl rfl (fun w hSw => ?_) hHeld ?_
                  rotate_left
                  · (go_simp; try with_reducible rfl)
                  try simp only [Act.put, List.setIfInBounds_toArray, List.set_cons_zero, List.set_cons_succ]
                  refine wpAnyH_ready (rs := [11]) (by kernel_rfl) (by simp) ?_
                  refine AllReadyH.cons (o := _) rfl (fun K hK => ?_) ?_
                  ·
                    have cg := GB.cell 3
                    rw [gvC_get _ _ (by decide), upV_other _ _ _ _ (by decide), show G 3 = lb0 from HLB0.out] at cg
                    have fg := GB.frozen 3
                    rw [if_pos (by rfl)]
                    go_simp
                    refine hK.out _ _ (hHeld.setIn (by simp) _ _) (fun hHeld => ?_)
                    clear hK K
                    try simp only [Act.put, List.setIfInBounds_toArray, List.set_cons_zero, List.set_cons_succ]
                    refine wpAnyH_done (by kernel_rfl) ?_ _
                    have GB2 := (GB.setCell 3 (.slice (some ⟨mg, 0, none⟩) (Kn + 1) mc)).to (gvC_set _ _ _)
                    have SC := (Chg.refl w8 [gb]).setIn (k := gb) (by simp) 3 (.slice (some ⟨mg, 0, none⟩) (Kn + 1) mc)
                    have BO2 := BO1.chg SC (by simpa using yg)
                    have LA2 := ownsRow_chg LA1 SC (by rw [ob_slice]; simpa using lgg)
                    have LB3 := ownsRow_chg O8 SC (by rw [ob_slice]; simpa using mgg)
                    have OX2 := OX.chg SC (by rw [ob_slice]; simpa using xgg)
                    have C9 := CV.trans hHeld (fun x hx => Or.inl (HIN9.out x hx))
                    clear hHeld SC
                    go_wp2_with fail
                    go_ret
                    refine ⟨_, rfl, y, .slice (some ⟨lg, 0, none⟩) (Kn + 1) lc, .slice (some ⟨mg, 0, none⟩) (Kn + 1) mc, rfl, HY.out, (HCW.out.wide).trans1 C9, by rw [show gvR (iF mkJ) (iF f) k = RR from HRR.out]; exact BO2, ?_⟩
                    rw [show gvR (iF mkJ) (iF f) k = RR from HRR.out]
                    exact Gv.more HG1.out (by decide) (by decide) C9 HL1.out HL2.out HJ.out GB2 LA2 LB3 (by rw [ob_slice, ob_slice]; intro x hx hx'; simp at hx hx'; exact DJ2 (hx.symm.trans hx')) (by have := HIM.out; omega) BO2 ⟨ownsRow_base OX2.1 HBV.out, OX2.2⟩
                  exact AllReadyH.nil
                exact AllReadyH.nil
              exact AllReadyH.nil
            exact AllReadyH.nil
          refine AllReadyH.cons (o := _) rfl (fun K hK => ?_) ?_
          ·
            go_simp
            refine (CopyInts_s (.slice (some ⟨y, 0, none⟩) i i) i RR _ HI0.out HIM.out ⟨HOK.out, Or.inr ⟨y, 0, i, rfl, Nat.le_refl _, by have := HIM.out; omega, BO1.lt, fun j hj => by rw [Nat.zero_add]; exact BO1.rangeRw HOK.out hj⟩⟩).mono ?_
            rintro e v7 ⟨xg, xc, rfl, OX, k7⟩
            go_wp2_with fail
            refine hK.out _ _ (hHeld.trans1 k7.wide) (fun hHeld => ?_)
            clear hK K
            try simp only [Act.put, List.setIfInBounds_toArray, List.set_cons_zero, List.set_cons_succ]
            replace GB := GB.chg k7 (by simp)
            replace BO1 := BO1.chg k7 (by simp)
            replace LA1 := ownsRow_chg LA1 k7 (by simp)
            replace LB2 := ownsRow_chg LB2 k7 (by simp)
            have bv7 : base ≤ v7.heap.size := Nat.le_trans HBV.out k7.size
            have lglt : lg < v7.heap.size := by obtain ⟨C, hC⟩ := ownsRow_blk LA1 (k := lg) (by rw [ob_slice]; simp); exact hC.lt
            have xg9 : ¬ xg ∈ ob lb0 := fun hx => by obtain ⟨C, hC⟩ := ownsRow_blk LB2 hx; obtain ⟨D, hD⟩ := ownR_blk OX (k := xg) (by rw [ob_slice]; simp); exact hD.ne hC (by decide) rfl
            have xgg : ¬ xg = gb := by obtain ⟨D, hD⟩ := ownR_blk OX (k := xg) (by rw [ob_slice]; simp); exact hD.ne GB (by decide)
            clear k7
            refine wpAnyH_ready (rs := [4, 7]) (by kernel_rfl) (by simp) ?_
            refine AllReadyH.cons (o := _) rfl (fun K hK => ?_) ?_
            ·
              have cg := GB.cell 3
              rw [gvC_get _ _ (by decide), upV_other _ _ _ _ (by decide), show G 3 = lb0 from HLB0.out] at cg
              rw [if_pos (by rfl)]
              go_simp
              refine hK.out _ _ (hHeld) (fun hHeld => ?_)
              clear hK K
              try simp only [Act.put, List.setIfInBounds_toArray, List.set_cons_zero, List.set_cons_succ]
              refine wpAnyH_ready (rs := [7]) (by kernel_rfl) (by simp) ?_
              refine AllReadyH.cons (o := _) rfl (fun K hK => ?_) ?_
              ·
                rw [if_pos (by rfl)]
                go_simp
                refine hK.out _ _ (hHeld.alloc _) (fun hHeld => ?_)
                clear hK K
                try simp only [Act.put, List.setIfInBounds_toArray, List.set_cons_zero, List.set_cons_succ]
                have AL := Blk.new v7 #[.slice (some ⟨xg, 0, none⟩) i xc] 25
                replace GB := GB.alloc (.cells #[.slice (some ⟨xg, 0, none⟩) i xc] 25)
                replace BO1 := BO1.alloc (.cells #[.slice (some ⟨xg, 0, none⟩) i xc] 25)
                replace LA1 := LA1.alloc (.cells #[.slice (some ⟨xg, 0, none⟩) i xc] 25)
                replace LB2 := LB2.alloc (.cells #[.slice (some ⟨xg, 0, none⟩) i xc] 25)
                replace OX := OX.chg ((Chg.refl v7 []).alloc (.cells #[.slice (some ⟨xg, 0, none⟩) i xc] 25)) (by simp)
                refine wpAnyH_ready (rs := [8]) (by kernel_rfl) (by simp) ?_
                refine AllReadyH.cons (o := _) rfl (fun K hK => ?_) ?_
                ·
                  rw [if_pos (by rfl)]
                  refine wp_append_lies _ (.tmp 50) (.tmp 53) 27 rfl base 25 inf (.slice none 0 0) 1 24 Tryz.underlying27 hinf hz hs1 hs2 rfl (by decide) lb0 Kn us rfl LB2 ⟨v7.heap.size, 0, none⟩ 1 1 [.slice (some ⟨xg, 0, none⟩) i xc] rfl rfl (fun j u hj => add_cell (by rw [Nat.zero_add, AL.cell]; simpa using hj)) (by simp [Value.oneCell']) (by decide) H63.out HBY.out (by simp; omega) (v7.heap.size + 1) (by simp) ?_
                  intro mg mc w8 O8 G8 hat8 hlt8
                  replace G8 := Chg.grown G8
                  have DJ2 : ¬ lg = mg := by
                    rcases hat8 with h | h
                    · intro e; exact DJ (by simp [ob, h, e])
                    · omega
                  refine hK.out _ _ (hHeld.trans1 (G8.incl (fun x hx => List.mem_cons_of_mem _ hx))) (fun hHeld => ?_)
                  clear hK K
                  try simp only [Act.put, List.setIfInBounds_toArray, List.set_cons_zero, List.set_cons_succ]
                  replace GB := GB.chg G8 g9
                  replace BO1 := BO1.chg G8 y9
                  replace LA1 := ownsRow_chg LA1 G8 (by rw [ob_slice]; simpa using DJ)
                  replace OX := OX.chg G8 (by rw [ob_slice]; simpa using xg9)
                  have mgg : ¬ mg = gb := by obtain ⟨C, hC⟩ := ownsRow_blk O8 (k := mg) (by rw [ob_slice]; simp); exact hC.ne GB (by decide)
                  clear G8 AL hat8 hlt8 LB2
                  refine take_val (v := ?_) 9 (some 55) rfl (by kernel_rfl) (by kernel_rfl) (by kernel_rfl) (fun _ _ _ h => h) rfl rfl (fun w hSw => ?_) hHeld ?_
                  rotate_left
                  · (go_simp; try with_reducible rfl)
                  try simp only [Act.put, List.setIfInBounds_toArray, List.set_cons_zero, List.set_cons_succ]
                  refine take_val (v := ?_) 10 (some 56) rfl (by kernel_rfl) (by kernel_rfl) (by kernel_rfl) (fun _ _ _ h => h) rfl rfl (fun w hSw => ?_) hHeld ?_
                  rotate_left
                  · (go_simp; try with_reducible rfl)
                  try simp only [Act.put, List.setIfInBounds_toArray, List.set_cons_zero, List.set_cons_succ]
                  refine wpAnyH_ready (rs := [11]) (by kernel_rfl) (by simp) ?_
                  refine AllReadyH.cons (o := _) rfl (fun K hK => ?_) ?_
                  ·
                    have cg := GB.cell 3
                    rw [gvC_get _ _ (by decide), upV_other _ _ _ _ (by decide), show G 3 = lb0 from HLB0.out] at cg
                    have fg := GB.frozen 3
                    rw [if_pos (by rfl)]
                    go_simp
                    refine hK.out _ _ (hHeld.setIn (by simp) _ _) (fun hHeld => ?_)
                    clear hK K
                    try simp only [Act.put, List.setIfInBounds_toArray, List.set_cons_zero, List.set_cons_succ]
                    refine wpAnyH_done (by kernel_rfl) ?_ _
                    have GB2 := (GB.setCell 3 (.slice (some ⟨mg, 0, none⟩) (Kn + 1) mc)).to (gvC_set _ _ _)
                    have SC := (Chg.refl w8 [gb]).setIn (k := gb) (by simp) 3 (.slice (some ⟨mg, 0, none⟩) (Kn + 1) mc)
                    have BO2 := BO1.chg SC (by simpa using yg)
                    have LA2 := ownsRow_chg LA1 SC (by rw [ob_slice]; simpa using lgg)
                    have LB3 := ownsRow_chg O8 SC (by rw [ob_slice]; simpa using mgg)
                    have OX2 := OX.chg SC (by rw [ob_slice]; simpa using xgg)
                    have C9 := CV.trans hHeld (fun x hx => Or.inl (HIN9.out x hx))
                    clear hHeld SC
                    go_wp2_with fail
                    go_ret
                    refine ⟨_, rfl, y, .slice (some ⟨lg, 0, none⟩) (Kn + 1) lc, .slice (some ⟨mg, 0, none⟩) (Kn + 1) mc, rfl, HY.out, (HCW.out.wide).trans1 C9, by rw [show gvR (iF mkJ) (iF f) k = RR from HRR.out]; exact BO2, ?_⟩
                    rw [show gvR (iF mkJ) (iF f) k = RR from HRR.out]
                    exact Gv.more HG1.out (by decide) (by decide) C9 HL1.out HL2.out HJ.out GB2 LA2 LB3 (by rw [ob_slice, ob_slice]; intro x hx hx'; simp at hx hx'; exact DJ2 (hx.symm.trans hx')) (by have := HIM.out; omega) BO2 ⟨ownsRow_base OX2.1 HBV.out, OX2.2⟩
                  exact AllReadyH.nil
                exact AllReadyH.nil
              exact AllReadyH.nil
            refine AllReadyH.cons (o := _) rfl (fun K hK => ?_) ?_
            ·
              rw [if_pos (by rfl)]
              go_simp
              refine hK.out _ _ (hHeld.alloc _) (fun hHeld => ?_)
              clear hK K
              try simp only [Act.put, List.setIfInBounds_toArray, List.set_cons_zero, List.set_cons_succ]
              have AL := Blk.new v7 #[.slice (some ⟨xg, 0, none⟩) i xc] 25
              replace GB := GB.alloc (.cells #[.slice (some ⟨xg, 0, none⟩) i xc] 25)
              replace BO1 := BO1.alloc (.cells #[.slice (some ⟨xg, 0, none⟩) i xc] 25)
              replace LA1 := LA1.alloc (.cells #[.slice (some ⟨xg, 0, none⟩) i xc] 25)
              replace LB2 := LB2.alloc (.cells #[.slice (some ⟨xg, 0, none⟩) i xc] 25)
              replace OX := OX.chg ((Chg.refl v7 []).alloc (.cells #[.slice (some ⟨xg, 0, none⟩) i xc] 25)) (by simp)
              refine wpAnyH_ready (rs := [4]) (by kernel_rfl) (by simp) ?_
              refine AllReadyH.cons (o := _) rfl (fun K hK => ?_) ?_
              ·
                have cg := GB.cell 3
                rw [gvC_get _ _ (by decide), upV_other _ _ _ _ (by decide), show G 3 = lb0 from HLB0.out] at cg
                rw [if_pos (by rfl)]
                go_simp
                refine hK.out _ _ (hHeld) (fun hHeld => ?_)
                clear hK K
                try simp only [Act.put, List.setIfInBounds_toArray, List.set_cons_zero, List.set_cons_succ]
                refine wpAnyH_ready (rs := [8]) (by kernel_rfl) (by simp) ?_
                refine AllReadyH.cons (o := _) rfl (fun K hK => ?_) ?_
                ·
                  rw [if_pos (by rfl)]
                  refine wp_append_lies _ (.tmp 50) (.tmp 53) 27 rfl base 25 inf (.slice none 0 0) 1 24 Tryz.underlying27 hinf hz hs1 hs2 rfl (by decide) lb0 Kn us rfl LB2 ⟨v7.heap.size, 0, none⟩ 1 1 [.slice (some ⟨xg, 0, none⟩) i xc] rfl rfl (fun j u hj => add_cell (by rw [Nat.zero_add, AL.cell]; simpa using hj)) (by simp [Value.oneCell']) (by decide) H63.out HBY.out (by simp; omega) (v7.heap.size + 1) (by simp) ?_
                  intro mg mc w8 O8 G8 hat8 hlt8
                  replace G8 := Chg.grown G8
                  have DJ2 : ¬ lg = mg := by
                    rcases hat8 with h | h
                    · intro e; exact DJ (by simp [ob, h, e])
                    · omega
                  refine hK.out _ _ (hHeld.trans1 (G8.incl (fun x hx => List.mem_cons_of_mem _ hx))) (fun hHeld => ?_)
                  clear hK K
                  try simp only [Act.put, List.setIfInBounds_toArray, List.set_cons_zero, List.set_cons_succ]
                  replace GB := GB.chg G8 g9
                  replace BO1 := BO1.chg G8 y9
                  replace LA1 := ownsRow_chg LA1 G8 (by rw [ob_slice]; simpa using DJ)
                  replace OX := OX.chg G8 (by rw [ob_slice]; simpa using xg9)
                  have mgg : ¬ mg = gb := by obtain ⟨C, hC⟩ := ownsRow_blk O8 (k := mg) (by rw [ob_slice]; simp); exact hC.ne GB (by decide)
                  clear G8 AL hat8 hlt8 LB2
                  refine take_val (v := ?_) 9 (some 55) rfl (by kernel_rfl) (by kernel_rfl) (by kernel_rfl) (fun _ _ _ h => h) rfl rfl (fun w hSw => ?_) hHeld ?_
                  rotate_left
                  · (go_simp; try with_reducible rfl)
                  try simp only [Act.put, List.setIfInBounds_toArray, List.set_cons_zero, List.set_cons_succ]
                  refine take_val (v := ?_) 10 (some 56) rfl (by kernel_rfl) (by kernel_rfl) (by kernel_rfl) (fun _ _ _ h => h) rfl rfl (fun w hSw => ?_) hHeld ?_
                  rotate_left
                  · (go_simp; try with_reducible rfl)
                  try simp only [Act.put, List.setIfInBounds_toArray, List.set_cons_zero, List.set_cons_succ]
                  refine wpAnyH_ready (rs := [11]) (by kernel_rfl) (by simp) ?_
                  refine AllReadyH.cons (o := _) rfl (fun K hK => ?_) ?_
                  ·
                    have cg := GB.cell 3
                    rw [gvC_get _ _ (by decide), upV_other _ _ _ _ (by decide), show G 3 = lb0 from HLB0.out] at cg
                    have fg := GB.frozen 3
                    rw [if_pos (by rfl)]
                    go_simp
                    refine hK.out _ _ (hHeld.setIn (by simp) _ _) (fun hHeld => ?_)
                    clear hK K
                    try simp only [Act.put, List.setIfInBounds_toArray, List.set_cons_zero, List.set_cons_succ]
                    refine wpAnyH_done (by kernel_rfl) ?_ _
                    have GB2 := (GB.setCell 3 (.slice (some ⟨mg, 0, none⟩) (Kn + 1) mc)).to (gvC_set _ _ _)
                    have SC := (Chg.refl w8 [gb]).setIn (k := gb) (by simp) 3 (.slice (some ⟨mg, 0, none⟩) (Kn + 1) mc)
                    have BO2 := BO1.chg SC (by simpa using yg)
                    have LA2 := ownsRow_chg LA1 SC (by rw [ob_slice]; simpa using lgg)
                    have LB3 := ownsRow_chg O8 SC (by rw [ob_slice]; simpa using mgg)
                    have OX2 := OX.chg SC (by rw [ob_slice]; simpa using xgg)
                    have C9 := CV.trans hHeld (fun x hx => Or.inl (HIN9.out x hx))
                    clear hHeld SC
                    go_wp2_with fail
                    go_ret
                    refine ⟨_, rfl, y, .slice (some ⟨lg, 0, none⟩) (Kn + 1) lc, .slice (some ⟨mg, 0, none⟩) (Kn + 1) mc, rfl, HY.out, (HCW.out.wide).trans1 C9, by rw [show gvR (iF mkJ) (iF f) k = RR from HRR.out]; exact BO2, ?_⟩
                    rw [show gvR (iF mkJ) (iF f) k = RR from HRR.out]
                    exact Gv.more HG1.out (by decide) (by decide) C9 HL1.out HL2.out HJ.out GB2 LA2 LB3 (by rw [ob_slice, ob_slice]; intro x hx hx'; simp at hx hx'; exact DJ2 (hx.symm.trans hx')) (by have := HIM.out; omega) BO2 ⟨ownsRow_base OX2.1 HBV.out, OX2.2⟩
                  exact AllReadyH.nil
                exact AllReadyH.nil
              exact AllReadyH.nil
            exact AllReadyH.nil
          exact AllReadyH.nil
end Go.Proofs.YtemjpibmefggnaaGreat

/- rimeplain.SameInts; (*Given).Intact, where ints and scalars were handed in. -/
set_option linter.unusedVariables false
set_option linter.unusedSimpArgs false
set_option linter.unnecessarySimpa false
namespace Go.Proofs.YtemjpibmefggnaaGreat
open Go.RowKit N

theorem cell_chgJ {w w' : World} {g k : Nat} {v : Value} (h : w.cell? ⟨g, k, none⟩ = some v) (hc : Chg w w' []) : w'.cell? ⟨g, k, none⟩ = some v := by
  have hl : g < w.heap.size := by
    by_cases hl : g < w.heap.size
    · exact hl
    · simp [World.cell?, Array.getElem?_eq_none (Nat.le_of_not_lt hl)] at h
  rw [← h]
  simp only [World.cell?, hc.block g hl (by simp)]
/-- The lists at p as the walk reads them. -/
theorem Gv.readJ {w : World} {gb base : Nat} {G : Nat → Value} {p : Nat} {TG TE T : TypeId} {s Kn : Nat} {N : Nat → Nat} {F : Nat → Nat → List Value} (h : Gv w gb base G p TG TE T s Kn N F) :
    ∃ pa ca pb cb, G p = .slice pa Kn ca ∧ G (p + 1) = .slice pb Kn cb ∧ ∀ j, j < Kn → ∃ lg mg x y, pa = some ⟨lg, 0, none⟩ ∧ pb = some ⟨mg, 0, none⟩ ∧ w.cell? ⟨lg, j, none⟩ = some x ∧ w.cell? ⟨mg, j, none⟩ = some y ∧ Rl w s x (N j) (F j) ∧ Rl w s y (N j) (F j) := by
  obtain ⟨vs, us, l1, l2, hd, hj⟩ := h.lists
  by_cases h0 : Kn = 0
  · subst h0
    have f1 : ∃ pa ca, G p = .slice pa 0 ca := by
      rcases l1.2 with ⟨e, _⟩ | ⟨g, cap, cur, e, _⟩
      · exact ⟨_, _, e⟩
      · exact ⟨_, _, e⟩
    have f2 : ∃ pa ca, G (p + 1) = .slice pa 0 ca := by
      rcases l2.2 with ⟨e, _⟩ | ⟨g, cap, cur, e, _⟩
      · exact ⟨_, _, e⟩
      · exact ⟨_, _, e⟩
    obtain ⟨pa, ca, e1⟩ := f1
    obtain ⟨pb, cb, e2⟩ := f2
    exact ⟨pa, ca, pb, cb, e1, e2, fun j hj => by omega⟩
  · obtain ⟨lg, ca, e1, _, _⟩ := l1.form (by omega)
    obtain ⟨mg, cb, e2, _, _⟩ := l2.form (by omega)
    refine ⟨_, ca, _, cb, e1, e2, fun j hjk => ?_⟩
    obtain ⟨o, x, q1, q2, q3, q4, q5⟩ := hj j hjk
    rw [e1] at l1
    rw [e2] at l2
    refine ⟨lg, mg, _, x, rfl, rfl, ownsRow_cell l1 q1, ownsRow_cell l2 q2, ⟨q5.2, Or.inr ⟨o, 0, N j, rfl, Nat.le_refl _, q3, q4.lt, fun i hi => ?_⟩⟩, q5.rl⟩
    rw [Nat.zero_add]
    exact q4.rangeRw q5.2 hi
theorem Rl.il {w : World} {v : Value} {N : Nat} {f : Nat → Int} (h : Rl w 1 v N (iF f)) : Il w v N f := by
  rcases h.2 with h2 | ⟨g, o, cap, e, h1, h2, h3, h4⟩
  · exact Or.inl h2
  · refine Or.inr ⟨g, o, cap, e, h1, h2, h3, fun i hi => ?_⟩
    have := h4 i hi 0 (.int .i64 (f i)) rfl
    rwa [Nat.mul_one, Nat.add_zero] at this
set_option maxHeartbeats 8000000 in
set_option maxRecDepth 100000 in
theorem SameInts_j (v u : Value) (N : Nat) (f : Nat → Int) (hN : N ≤ 140737488355328) (w : World) (hL : Il w v N f) (hU : Il w u N f) :
    Calls Tryz.prog 36 #[v, u] w fun e w' => e = .returned (.bool true) ∧ Chg w w' [] := by
  obtain ⟨p, cp, rfl, hp⟩ := hL.form
  obtain ⟨p', cp', rfl, hp'⟩ := hU.form
  go_enter Tryz.func36, Tryz.ntmps36
  go_wp2_with fail
  go_loopw [5] (fun t wr => ∃ i : Nat, i ≤ N ∧ t = .int .i64 (i : Int) ∧ Chg w wr []) (fun t _ => (N - intOf t).toNat)
  case atStart => exact ⟨0, Nat.zero_le _, rfl, Chg.refl _ _⟩
  case round =>
    obtain ⟨i, hi, rfl, cC⟩ := hrel
    by_cases h : i < N
    · have hI : (i : Int) < (N : Int) := by omega
      have hI0 : (0 : Int) ≤ (i : Int) := by omega
      have HM : Hid _ := mN N i h
      have HI1 : Hid (i + 1 ≤ N) := h
      obtain ⟨g, o, rfl, hg, hF⟩ := hp i h
      obtain ⟨g', o', rfl, hg', hG0⟩ := hp' i h
      have HK : Hid (wr.cell? ⟨g, o + i, none⟩ = some (.int .i64 (f i))) := cell_chg hF hg cC (by simp)
      have HI : Hid (wr.cell? ⟨g', o' + i, none⟩ = some (.int .i64 (f i))) := cell_chg hG0 hg' cC (by simp)
      have HG : Hid (g < wr.heap.size) := Nat.lt_of_lt_of_le hg cC.size
      have HG2 : Hid (g' < wr.heap.size) := Nat.lt_of_lt_of_le hg' cC.size
      clear hp hp' h hi hF hg hG0 hg' hL hU
      go_wp2_with fail
      refine wp_region_held_drew (S := fun w' => Chg wr w' []) (by kernel_rfl) ((Chg.refl wr _).drew) (fun hHeld => ?_)
      refine take_val (v := ?_) 0 (some 17) rfl (by kernel_rfl) (by kernel_rfl) (by kernel_rfl) (fun _ _ _ h => h) rfl rfl (fun w hSw => ?_) hHeld ?_
      rotate_left
      · (go_simp; try with_reducible rfl)
      try simp only [Act.put, List.setIfInBounds_toArray, List.set_cons_zero, List.set_cons_succ]
      refine take_val (v := ?_) 1 (some 18) rfl (by kernel_rfl) (by kernel_rfl) (by kernel_rfl) (fun _ _ _ h => h) rfl rfl (fun w hSw => ?_) hHeld ?_
      rotate_left
      · (go_simp; try with_reducible rfl)
      try simp only [Act.put, List.setIfInBounds_toArray, List.set_cons_zero, List.set_cons_succ]
      refine take_val (v := ?_) 2 (some 19) rfl (by kernel_rfl) (by kernel_rfl) (by kernel_rfl) (fun _ _ _ h => h) rfl rfl (fun w hSw => ?_) hHeld ?_
      rotate_left
      · (go_simp; try with_reducible rfl)
      try simp only [Act.put, List.setIfInBounds_toArray, List.set_cons_zero, List.set_cons_succ]
      refine take_val (v := (.int .i64 (f i))) 3 (some 20) rfl (by kernel_rfl) (by kernel_rfl) (by kernel_rfl) (fun _ _ _ h => h) rfl rfl (fun w hSw => ?_) hHeld ?_
      · have cx := cell_chg HK.out HG.out hSw (by simp)
        (go_simp; try with_reducible rfl)
      try simp only [Act.put, List.setIfInBounds_toArray, List.set_cons_zero, List.set_cons_succ]
      refine take_val (v := ?_) 4 (some 21) rfl (by kernel_rfl) (by kernel_rfl) (by kernel_rfl) (fun _ _ _ h => h) rfl rfl (fun w hSw => ?_) hHeld ?_
      rotate_left
      · (go_simp; try with_reducible rfl)
      try simp only [Act.put, List.setIfInBounds_toArray, List.set_cons_zero, List.set_cons_succ]
      refine take_val (v := ?_) 5 (some 22) rfl (by kernel_rfl) (by kernel_rfl) (by kernel_rfl) (fun _ _ _ h => h) rfl rfl (fun w hSw => ?_) hHeld ?_
      rotate_left
      · (go_simp; try with_reducible rfl)
      try simp only [Act.put, List.setIfInBounds_toArray, List.set_cons_zero, List.set_cons_succ]
      refine take_val (v := ?_) 6 (some 23) rfl (by kernel_rfl) (by kernel_rfl) (by kernel_rfl) (fun _ _ _ h => h) rfl rfl (fun w hSw => ?_) hHeld ?_
      rotate_left
      · (go_simp; try with_reducible rfl)
      try simp only [Act.put, List.setIfInBounds_toArray, List.set_cons_zero, List.set_cons_succ]
      refine take_val (v := (.int .i64 (f i))) 7 (some 24) rfl (by kernel_rfl) (by kernel_rfl) (by kernel_rfl) (fun _ _ _ h => h) rfl rfl (fun w hSw => ?_) hHeld ?_
      · have cx := cell_chg HI.out HG2.out hSw (by simp)
        (go_simp; try with_reducible rfl)
      try simp only [Act.put, List.setIfInBounds_toArray, List.set_cons_zero, List.set_cons_succ]
      refine take_val (v := ?_) 8 (some 25) rfl (by kernel_rfl) (by kernel_rfl) (by kernel_rfl) (fun _ _ _ h => h) rfl rfl (fun w hSw => ?_) hHeld ?_
      rotate_left
      · (go_simp; try with_reducible rfl)
      try simp only [Act.put, List.setIfInBounds_toArray, List.set_cons_zero, List.set_cons_succ]
      refine wpAnyH_done (by kernel_rfl) ?_ _
      go_wp2_with fail
      exact ⟨⟨i + 1, HI1.out, by go_num, cC.trans1 hHeld⟩, HM.out⟩
    · have hI : ¬ (i : Int) < (N : Int) := by omega
      go_wp2_with fail
      go_ret
      exact ⟨rfl, cC⟩
set_option maxHeartbeats 16000000 in
set_option maxRecDepth 100000 in
theorem Intact_n (gb base Ka Kb : Nat) (G : Nat → Value) (Na Nb : Nat → Nat) (Fa Fb : Nat → Nat → List Value) (w : World) (hA : Gv w gb base G 2 42 25 3 1 Ka Na Fa) (hB : Gv w gb base G 8 42 22 24 32 Kb Nb Fb)
    (hz : ∀ q, q < 30 → ¬ q = 2 → ¬ q = 3 → ¬ q = 8 → ¬ q = 9 → G q = .slice none 0 0) (hNa : ∀ j, j < Ka → Na j ≤ 140737488355328) (hNb : ∀ j, j < Kb → Nb j ≤ 140737488355328)
    (hFa : ∀ j, j < Ka → ∃ f : Nat → Int, Fa j = iF f) (hFb : ∀ j, j < Kb → ∃ f : Nat → Nat, Fb j = fR f ∧ ∀ i, i < Nb j → f i < 115792089237316195423570985008687907853269984665640564039457584007913129639936) (hKa : Ka ≤ 1000) (hKb : Kb ≤ 1000) :
    Calls Tryz.prog 18 #[.pointer (some ⟨gb, 0, none⟩)] w fun e w' => e = .returned (.bool true) ∧ Chg w w' [] := by
  have hg := hA.gb
  obtain ⟨pa, ca, pb, cb, ea1, ea2, hrda⟩ := hA.readJ
  obtain ⟨qa, da, qb, db, eb1, eb2, hrdb⟩ := hB.readJ
  have HZ : Hid (∀ q, q < 30 → ¬ q = 2 → ¬ q = 3 → ¬ q = 8 → ¬ q = 9 → G q = .slice none 0 0) := hz
  have HRDa : Hid (∀ j, j < Ka → ∃ lg mg x y, pa = some ⟨lg, 0, none⟩ ∧ pb = some ⟨mg, 0, none⟩ ∧ w.cell? ⟨lg, j, none⟩ = some x ∧ w.cell? ⟨mg, j, none⟩ = some y ∧ Rl w 1 x (Na j) (Fa j) ∧ Rl w 1 y (Na j) (Fa j)) := hrda
  have HRDb : Hid (∀ j, j < Kb → ∃ lg mg x y, qa = some ⟨lg, 0, none⟩ ∧ qb = some ⟨mg, 0, none⟩ ∧ w.cell? ⟨lg, j, none⟩ = some x ∧ w.cell? ⟨mg, j, none⟩ = some y ∧ Rl w 32 x (Nb j) (Fb j) ∧ Rl w 32 y (Nb j) (Fb j)) := hrdb
  have HNa : Hid (∀ j, j < Ka → Na j ≤ 140737488355328) := hNa
  have HNb : Hid (∀ j, j < Kb → Nb j ≤ 140737488355328) := hNb
  have HFa : Hid (∀ j, j < Ka → ∃ f : Nat → Int, Fa j = iF f) := hFa
  have HFb : Hid (∀ j, j < Kb → ∃ f : Nat → Nat, Fb j = fR f ∧ ∀ i, i < Nb j → f i < 115792089237316195423570985008687907853269984665640564039457584007913129639936) := hFb
  have HEa1 : Hid (G 2 = .slice pa Ka ca) := ea1
  have HEa2 : Hid (G 3 = .slice pb Ka cb) := ea2
  have HEb1 : Hid (G 8 = .slice qa Kb da) := eb1
  have HEb2 : Hid (G 9 = .slice qb Kb db) := eb2
  have HKa : Hid (Ka ≤ 1000) := hKa
  have HKb : Hid (Kb ≤ 1000) := hKb
  have HG : Hid (Blk w gb (gvC G) 42) := hg
  clear hz hrda hrdb hNa hNb hFa hFb ea1 ea2 eb1 eb2 hA hB hg hKa hKb
  go_enter Tryz.func18, Tryz.ntmps18
  have cc : Chg w w [] := Chg.refl w []
  go_wp2_with fail
  go_loopw [3] (fun t wr => t = .int .i64 0 ∧ Chg w wr []) (fun _ _ => 0)
  case atStart => exact ⟨rfl, cc⟩
  case round =>
    clear cc
    obtain ⟨rfl, cc⟩ := hrel
    have c0 := ((HG.out.chg cc (by simp)).cell 0).trans (gvC_get G 0 (by decide))
    rw [HZ.out 0 (by decide) (by decide) (by decide) (by decide) (by decide)] at c0
    go_wp2_with fail
    go_loopw [4] (fun t wr => ∃ i : Nat, i ≤ Ka ∧ t = .int .i64 (i : Int) ∧ Chg w wr []) (fun t _ => ((Ka : Int) - intOf t).toNat)
    case atStart => exact ⟨0, Nat.zero_le _, rfl, cc⟩
    case round =>
      clear cc c0
      obtain ⟨ia, hi, rfl, cc⟩ := hrel
      have c0 := ((HG.out.chg cc (by simp)).cell 2).trans (gvC_get G 2 (by decide))
      rw [HEa1.out] at c0
      by_cases h8 : ia < Ka
      · have hI : (ia : Int) < (Ka : Int) := by omega
        have hI0 : (0 : Int) ≤ (ia : Int) := by omega
        have e1 : IntKind.i64.wrap ((ia : Int) + 1) = (ia : Int) + 1 := by have := HKa.out; rw [IntKind.wrap_i64]; omega
        have HI1 : Hid (ia + 1 ≤ Ka) := h8
        have HM : Hid (((Ka : Int) - intOf (.int .i64 ((ia : Int) + 1))).toNat < ((Ka : Int) - intOf (.int .i64 (ia : Int))).toNat) := by show ((Ka : Int) - intOf (.int .i64 ((ia : Int) + 1))).toNat < ((Ka : Int) - intOf (.int .i64 (ia : Int))).toNat; simp [intOf]; omega
        obtain ⟨lg, mg, x, y, rfl, rfl, cl, cm, rx, ry⟩ := HRDa.out ia h8
        obtain ⟨f, hf1⟩ := HFa.out ia h8
        have HNI : Hid (Na ia ≤ 140737488355328) := HNa.out ia h8
        have XL : Hid (Il wr x (Na ia) f) := Rl.il (hf1 ▸ rx.chg cc (Off.nil _))
        have YL : Hid (Il wr y (Na ia) f) := Rl.il (hf1 ▸ ry.chg cc (Off.nil _))
        have CL : Hid (wr.cell? ⟨lg, ia, none⟩ = some x) := cell_chgJ cl cc
        have CM : Hid (wr.cell? ⟨mg, ia, none⟩ = some y) := cell_chgJ cm cc
        have HGR : Hid (Blk wr gb (gvC G) 42) := HG.out.chg cc (by simp)
        clear cl cm rx ry hf1 h8 hi HRDa HRDb HFa HFb HNa HNb
        go_wp2_with fail
        refine wp_region_held_drew (S := fun w' => Chg wr w' []) (by kernel_rfl) ((Chg.refl wr _).drew) (fun hHeld => ?_)
        refine take_val (v := ?_) 0 (some 52) rfl (by kernel_rfl) (by kernel_rfl) (by kernel_rfl) (fun _ _ _ h => h) rfl rfl (fun w hSw => ?_) hHeld ?_
        rotate_left
        · (go_simp; try with_reducible rfl)
        try simp only [Act.put, List.setIfInBounds_toArray, List.set_cons_zero, List.set_cons_succ]
        refine take_val (v := ?_) 1 (some 53) rfl (by kernel_rfl) (by kernel_rfl) (by kernel_rfl) (fun _ _ _ h => h) rfl rfl (fun w hSw => ?_) hHeld ?_
        rotate_left
        · (go_simp; try with_reducible rfl)
        try simp only [Act.put, List.setIfInBounds_toArray, List.set_cons_zero, List.set_cons_succ]
        refine take_val (v := ?_) 2 (some 54) rfl (by kernel_rfl) (by kernel_rfl) (by kernel_rfl) (fun _ _ _ h => h) rfl rfl (fun w hSw => ?_) hHeld ?_
        rotate_left
        · (go_simp; try with_reducible rfl)
        try simp only [Act.put, List.setIfInBounds_toArray, List.set_cons_zero, List.set_cons_succ]
        refine take_val (v := (Value.slice (some ⟨lg, 0, none⟩) Ka ca)) 3 (some 55) rfl (by kernel_rfl) (by kernel_rfl) (by kernel_rfl) (fun _ _ _ h => h) rfl rfl (fun w hSw => ?_) hHeld ?_
        · have cx := (HGR.out.chg hSw (by simp)).cell 2
          rw [gvC_get G 2 (by decide), HEa1.out] at cx
          (go_simp; try with_reducible rfl)
        try simp only [Act.put, List.setIfInBounds_toArray, List.set_cons_zero, List.set_cons_succ]
        refine take_val (v := ?_) 4 (some 56) rfl (by kernel_rfl) (by kernel_rfl) (by kernel_rfl) (fun _ _ _ h => h) rfl rfl (fun w hSw => ?_) hHeld ?_
        rotate_left
        · (go_simp; try with_reducible rfl)
        try simp only [Act.put, List.setIfInBounds_toArray, List.set_cons_zero, List.set_cons_succ]
        refine take_val (v := ?_) 5 (some 57) rfl (by kernel_rfl) (by kernel_rfl) (by kernel_rfl) (fun _ _ _ h => h) rfl rfl (fun w hSw => ?_) hHeld ?_
        rotate_left
        · (go_simp; try with_reducible rfl)
        try simp only [Act.put, List.setIfInBounds_toArray, List.set_cons_zero, List.set_cons_succ]
        refine take_val (v := (x)) 6 (some 58) rfl (by kernel_rfl) (by kernel_rfl) (by kernel_rfl) (fun _ _ _ h => h) rfl rfl (fun w hSw => ?_) hHeld ?_
        · have cx := cell_chgJ CL.out hSw
          (go_simp; try with_reducible rfl)
        try simp only [Act.put, List.setIfInBounds_toArray, List.set_cons_zero, List.set_cons_succ]
        refine take_val (v := ?_) 7 (some 59) rfl (by kernel_rfl) (by kernel_rfl) (by kernel_rfl) (fun _ _ _ h => h) rfl rfl (fun w hSw => ?_) hHeld ?_
        rotate_left
        · (go_simp; try with_reducible rfl)
        try simp only [Act.put, List.setIfInBounds_toArray, List.set_cons_zero, List.set_cons_succ]
        refine take_val (v := ?_) 8 (some 60) rfl (by kernel_rfl) (by kernel_rfl) (by kernel_rfl) (fun _ _ _ h => h) rfl rfl (fun w hSw => ?_) hHeld ?_
        rotate_left
        · (go_simp; try with_reducible rfl)
        try simp only [Act.put, List.setIfInBounds_toArray, List.set_cons_zero, List.set_cons_succ]
        refine take_val (v := ?_) 9 (some 61) rfl (by kernel_rfl) (by kernel_rfl) (by kernel_rfl) (fun _ _ _ h => h) rfl rfl (fun w hSw => ?_) hHeld ?_
        rotate_left
        · (go_simp; try with_reducible rfl)
        try simp only [Act.put, List.setIfInBounds_toArray, List.set_cons_zero, List.set_cons_succ]
        refine take_val (v := (Value.slice (some ⟨mg, 0, none⟩) Ka cb)) 10 (some 62) rfl (by kernel_rfl) (by kernel_rfl) (by kernel_rfl) (fun _ _ _ h => h) rfl rfl (fun w hSw => ?_) hHeld ?_
        · have cx := (HGR.out.chg hSw (by simp)).cell 3
          rw [gvC_get G 3 (by decide), HEa2.out] at cx
          (go_simp; try with_reducible rfl)
        try simp only [Act.put, List.setIfInBounds_toArray, List.set_cons_zero, List.set_cons_succ]
        refine take_val (v := ?_) 11 (some 63) rfl (by kernel_rfl) (by kernel_rfl) (by kernel_rfl) (fun _ _ _ h => h) rfl rfl (fun w hSw => ?_) hHeld ?_
        rotate_left
        · (go_simp; try with_reducible rfl)
        try simp only [Act.put, List.setIfInBounds_toArray, List.set_cons_zero, List.set_cons_succ]
        refine take_val (v := ?_) 12 (some 64) rfl (by kernel_rfl) (by kernel_rfl) (by kernel_rfl) (fun _ _ _ h => h) rfl rfl (fun w hSw => ?_) hHeld ?_
        rotate_left
        · (go_simp; try with_reducible rfl)
        try simp only [Act.put, List.setIfInBounds_toArray, List.set_cons_zero, List.set_cons_succ]
        refine take_val (v := (y)) 13 (some 65) rfl (by kernel_rfl) (by kernel_rfl) (by kernel_rfl) (fun _ _ _ h => h) rfl rfl (fun w hSw => ?_) hHeld ?_
        · have cx := cell_chgJ CM.out hSw
          (go_simp; try with_reducible rfl)
        try simp only [Act.put, List.setIfInBounds_toArray, List.set_cons_zero, List.set_cons_succ]
        refine wpAnyH_ready (rs := [14]) (by kernel_rfl) (by simp) ?_
        refine AllReadyH.cons (o := _) rfl (fun K hK => ?_) ?_
        ·
          go_simp
          refine (SameInts_j x y (Na ia) f HNI.out _ (XL.out.chg hHeld) (YL.out.chg hHeld)).mono ?_
          rintro e v7 ⟨rfl, k7⟩
          go_wp2_with fail
          refine hK.out _ _ (hHeld.trans1 k7) (fun hHeld => ?_)
          clear hK K
          try simp only [Act.put, List.setIfInBounds_toArray, List.set_cons_zero, List.set_cons_succ]
          refine take_val (v := ?_) 15 (some 67) rfl (by kernel_rfl) (by kernel_rfl) (by kernel_rfl) (fun _ _ _ h => h) rfl rfl (fun w hSw => ?_) hHeld ?_
          rotate_left
          · (go_simp; try with_reducible rfl)
          try simp only [Act.put, List.setIfInBounds_toArray, List.set_cons_zero, List.set_cons_succ]
          refine wpAnyH_done (by kernel_rfl) ?_ _
          go_wp2_with fail
          exact ⟨⟨ia + 1, HI1.out, by go_num, cc.trans1 hHeld⟩, HM.out⟩
        exact AllReadyH.nil
      · have h9 : ia = Ka := by omega
        subst h9
        have hIa : ¬ (ia : Int) < (ia : Int) := by omega
        go_wp2_with fail
        go_loopw [5] (fun t wr => t = .int .i64 0 ∧ Chg w wr []) (fun _ _ => 0)
        case atStart => exact ⟨rfl, cc⟩
        case round =>
          clear cc c0
          obtain ⟨rfl, cc⟩ := hrel
          have c0 := ((HG.out.chg cc (by simp)).cell 4).trans (gvC_get G 4 (by decide))
          rw [HZ.out 4 (by decide) (by decide) (by decide) (by decide) (by decide)] at c0
          go_wp2_with fail
          go_loopw [6] (fun t wr => t = .int .i64 0 ∧ Chg w wr []) (fun _ _ => 0)
          case atStart => exact ⟨rfl, cc⟩
          case round =>
            clear cc c0
            obtain ⟨rfl, cc⟩ := hrel
            have c0 := ((HG.out.chg cc (by simp)).cell 6).trans (gvC_get G 6 (by decide))
            rw [HZ.out 6 (by decide) (by decide) (by decide) (by decide) (by decide)] at c0
            go_wp2_with fail
            go_loopw [7] (fun t wr => ∃ i : Nat, i ≤ Kb ∧ t = .int .i64 (i : Int) ∧ Chg w wr []) (fun t _ => ((Kb : Int) - intOf t).toNat)
            case atStart => exact ⟨0, Nat.zero_le _, rfl, cc⟩
            case round =>
              clear cc c0
              obtain ⟨ib, hi, rfl, cc⟩ := hrel
              have c0 := ((HG.out.chg cc (by simp)).cell 8).trans (gvC_get G 8 (by decide))
              rw [HEb1.out] at c0
              by_cases h8 : ib < Kb
              · have hI : (ib : Int) < (Kb : Int) := by omega
                have hI0 : (0 : Int) ≤ (ib : Int) := by omega
                have e1 : IntKind.i64.wrap ((ib : Int) + 1) = (ib : Int) + 1 := by have := HKb.out; rw [IntKind.wrap_i64]; omega
                have HI1 : Hid (ib + 1 ≤ Kb) := h8
                have HM : Hid (((Kb : Int) - intOf (.int .i64 ((ib : Int) + 1))).toNat < ((Kb : Int) - intOf (.int .i64 (ib : Int))).toNat) := by show ((Kb : Int) - intOf (.int .i64 ((ib : Int) + 1))).toNat < ((Kb : Int) - intOf (.int .i64 (ib : Int))).toNat; simp [intOf]; omega
                obtain ⟨lg, mg, x, y, rfl, rfl, cl, cm, rx, ry⟩ := HRDb.out ib h8
                obtain ⟨f, hf1, hf2⟩ := HFb.out ib h8
                have HNI : Hid (Nb ib ≤ 140737488355328) := HNb.out ib h8
                have XL : Hid (Ls wr x (Nb ib) f) := Rl.ls (hf1 ▸ rx.chg cc (Off.nil _)) hf2
                have YL : Hid (Ls wr y (Nb ib) f) := Rl.ls (hf1 ▸ ry.chg cc (Off.nil _)) hf2
                have CL : Hid (wr.cell? ⟨lg, ib, none⟩ = some x) := cell_chgJ cl cc
                have CM : Hid (wr.cell? ⟨mg, ib, none⟩ = some y) := cell_chgJ cm cc
                have HGR : Hid (Blk wr gb (gvC G) 42) := HG.out.chg cc (by simp)
                clear cl cm rx ry hf1 hf2 h8 hi HRDa HRDb HFa HFb HNa HNb
                go_wp2_with fail
                refine wp_region_held_drew (S := fun w' => Chg wr w' []) (by kernel_rfl) ((Chg.refl wr _).drew) (fun hHeld => ?_)
                refine take_val (v := ?_) 0 (some 127) rfl (by kernel_rfl) (by kernel_rfl) (by kernel_rfl) (fun _ _ _ h => h) rfl rfl (fun w hSw => ?_) hHeld ?_
                rotate_left
                · (go_simp; try with_reducible rfl)
                try simp only [Act.put, List.setIfInBounds_toArray, List.set_cons_zero, List.set_cons_succ]
                refine take_val (v := ?_) 1 (some 128) rfl (by kernel_rfl) (by kernel_rfl) (by kernel_rfl) (fun _ _ _ h => h) rfl rfl (fun w hSw => ?_) hHeld ?_
                rotate_left
                · (go_simp; try with_reducible rfl)
                try simp only [Act.put, List.setIfInBounds_toArray, List.set_cons_zero, List.set_cons_succ]
                refine take_val (v := ?_) 2 (some 129) rfl (by kernel_rfl) (by kernel_rfl) (by kernel_rfl) (fun _ _ _ h => h) rfl rfl (fun w hSw => ?_) hHeld ?_
                rotate_left
                · (go_simp; try with_reducible rfl)
                try simp only [Act.put, List.setIfInBounds_toArray, List.set_cons_zero, List.set_cons_succ]
                refine take_val (v := (Value.slice (some ⟨lg, 0, none⟩) Kb da)) 3 (some 130) rfl (by kernel_rfl) (by kernel_rfl) (by kernel_rfl) (fun _ _ _ h => h) rfl rfl (fun w hSw => ?_) hHeld ?_
                · have cx := (HGR.out.chg hSw (by simp)).cell 8
                  rw [gvC_get G 8 (by decide), HEb1.out] at cx
                  (go_simp; try with_reducible rfl)
                try simp only [Act.put, List.setIfInBounds_toArray, List.set_cons_zero, List.set_cons_succ]
                refine take_val (v := ?_) 4 (some 131) rfl (by kernel_rfl) (by kernel_rfl) (by kernel_rfl) (fun _ _ _ h => h) rfl rfl (fun w hSw => ?_) hHeld ?_
                rotate_left
                · (go_simp; try with_reducible rfl)
                try simp only [Act.put, List.setIfInBounds_toArray, List.set_cons_zero, List.set_cons_succ]
                refine take_val (v := ?_) 5 (some 132) rfl (by kernel_rfl) (by kernel_rfl) (by kernel_rfl) (fun _ _ _ h => h) rfl rfl (fun w hSw => ?_) hHeld ?_
                rotate_left
                · (go_simp; try with_reducible rfl)
                try simp only [Act.put, List.setIfInBounds_toArray, List.set_cons_zero, List.set_cons_succ]
                refine take_val (v := (x)) 6 (some 133) rfl (by kernel_rfl) (by kernel_rfl) (by kernel_rfl) (fun _ _ _ h => h) rfl rfl (fun w hSw => ?_) hHeld ?_
                · have cx := cell_chgJ CL.out hSw
                  (go_simp; try with_reducible rfl)
                try simp only [Act.put, List.setIfInBounds_toArray, List.set_cons_zero, List.set_cons_succ]
                refine take_val (v := ?_) 7 (some 134) rfl (by kernel_rfl) (by kernel_rfl) (by kernel_rfl) (fun _ _ _ h => h) rfl rfl (fun w hSw => ?_) hHeld ?_
                rotate_left
                · (go_simp; try with_reducible rfl)
                try simp only [Act.put, List.setIfInBounds_toArray, List.set_cons_zero, List.set_cons_succ]
                refine take_val (v := ?_) 8 (some 135) rfl (by kernel_rfl) (by kernel_rfl) (by kernel_rfl) (fun _ _ _ h => h) rfl rfl (fun w hSw => ?_) hHeld ?_
                rotate_left
                · (go_simp; try with_reducible rfl)
                try simp only [Act.put, List.setIfInBounds_toArray, List.set_cons_zero, List.set_cons_succ]
                refine take_val (v := ?_) 9 (some 136) rfl (by kernel_rfl) (by kernel_rfl) (by kernel_rfl) (fun _ _ _ h => h) rfl rfl (fun w hSw => ?_) hHeld ?_
                rotate_left
                · (go_simp; try with_reducible rfl)
                try simp only [Act.put, List.setIfInBounds_toArray, List.set_cons_zero, List.set_cons_succ]
                refine take_val (v := (Value.slice (some ⟨mg, 0, none⟩) Kb db)) 10 (some 137) rfl (by kernel_rfl) (by kernel_rfl) (by kernel_rfl) (fun _ _ _ h => h) rfl rfl (fun w hSw => ?_) hHeld ?_
                · have cx := (HGR.out.chg hSw (by simp)).cell 9
                  rw [gvC_get G 9 (by decide), HEb2.out] at cx
                  (go_simp; try with_reducible rfl)
                try simp only [Act.put, List.setIfInBounds_toArray, List.set_cons_zero, List.set_cons_succ]
                refine take_val (v := ?_) 11 (some 138) rfl (by kernel_rfl) (by kernel_rfl) (by kernel_rfl) (fun _ _ _ h => h) rfl rfl (fun w hSw => ?_) hHeld ?_
                rotate_left
                · (go_simp; try with_reducible rfl)
                try simp only [Act.put, List.setIfInBounds_toArray, List.set_cons_zero, List.set_cons_succ]
                refine take_val (v := ?_) 12 (some 139) rfl (by kernel_rfl) (by kernel_rfl) (by kernel_rfl) (fun _ _ _ h => h) rfl rfl (fun w hSw => ?_) hHeld ?_
                rotate_left
                · (go_simp; try with_reducible rfl)
                try simp only [Act.put, List.setIfInBounds_toArray, List.set_cons_zero, List.set_cons_succ]
                refine take_val (v := (y)) 13 (some 140) rfl (by kernel_rfl) (by kernel_rfl) (by kernel_rfl) (fun _ _ _ h => h) rfl rfl (fun w hSw => ?_) hHeld ?_
                · have cx := cell_chgJ CM.out hSw
                  (go_simp; try with_reducible rfl)
                try simp only [Act.put, List.setIfInBounds_toArray, List.set_cons_zero, List.set_cons_succ]
                refine wpAnyH_ready (rs := [14]) (by kernel_rfl) (by simp) ?_
                refine AllReadyH.cons (o := _) rfl (fun K hK => ?_) ?_
                ·
                  go_simp
                  refine (SameScalars_t x y (Nb ib) f HNI.out _ ((XL.out.chg hHeld (Off.nil _))) ((YL.out.chg hHeld (Off.nil _)))).mono ?_
                  rintro e v7 ⟨rfl, k7⟩
                  go_wp2_with fail
                  refine hK.out _ _ (hHeld.trans1 k7) (fun hHeld => ?_)
                  clear hK K
                  try simp only [Act.put, List.setIfInBounds_toArray, List.set_cons_zero, List.set_cons_succ]
                  refine take_val (v := ?_) 15 (some 142) rfl (by kernel_rfl) (by kernel_rfl) (by kernel_rfl) (fun _ _ _ h => h) rfl rfl (fun w hSw => ?_) hHeld ?_
                  rotate_left
                  · (go_simp; try with_reducible rfl)
                  try simp only [Act.put, List.setIfInBounds_toArray, List.set_cons_zero, List.set_cons_succ]
                  refine wpAnyH_done (by kernel_rfl) ?_ _
                  go_wp2_with fail
                  exact ⟨⟨ib + 1, HI1.out, by go_num, cc.trans1 hHeld⟩, HM.out⟩
                exact AllReadyH.nil
              · have h9 : ib = Kb := by omega
                subst h9
                have hIb : ¬ (ib : Int) < (ib : Int) := by omega
                go_wp2_with fail
                go_loopw [8] (fun t wr => t = .int .i64 0 ∧ Chg w wr []) (fun _ _ => 0)
                case atStart => exact ⟨rfl, cc⟩
                case round =>
                  clear cc c0
                  obtain ⟨rfl, cc⟩ := hrel
                  have c0 := ((HG.out.chg cc (by simp)).cell 10).trans (gvC_get G 10 (by decide))
                  rw [HZ.out 10 (by decide) (by decide) (by decide) (by decide) (by decide)] at c0
                  go_wp2_with fail
                  go_loopw [9] (fun t wr => t = .int .i64 0 ∧ Chg w wr []) (fun _ _ => 0)
                  case atStart => exact ⟨rfl, cc⟩
                  case round =>
                    clear cc c0
                    obtain ⟨rfl, cc⟩ := hrel
                    have c0 := ((HG.out.chg cc (by simp)).cell 12).trans (gvC_get G 12 (by decide))
                    rw [HZ.out 12 (by decide) (by decide) (by decide) (by decide) (by decide)] at c0
                    go_wp2_with fail
                    go_loopw [10] (fun t wr => t = .int .i64 0 ∧ Chg w wr []) (fun _ _ => 0)
                    case atStart => exact ⟨rfl, cc⟩
                    case round =>
                      clear cc c0
                      obtain ⟨rfl, cc⟩ := hrel
                      have c0 := ((HG.out.chg cc (by simp)).cell 14).trans (gvC_get G 14 (by decide))
                      rw [HZ.out 14 (by decide) (by decide) (by decide) (by decide) (by decide)] at c0
                      go_wp2_with fail
                      go_loopw [11] (fun t wr => t = .int .i64 0 ∧ Chg w wr []) (fun _ _ => 0)
                      case atStart => exact ⟨rfl, cc⟩
                      case round =>
                        clear cc c0
                        obtain ⟨rfl, cc⟩ := hrel
                        have c0 := ((HG.out.chg cc (by simp)).cell 16).trans (gvC_get G 16 (by decide))
                        rw [HZ.out 16 (by decide) (by decide) (by decide) (by decide) (by decide)] at c0
                        go_wp2_with fail
                        go_loopw [12] (fun t wr => t = .int .i64 0 ∧ Chg w wr []) (fun _ _ => 0)
                        case atStart => exact ⟨rfl, cc⟩
                        case round =>
                          clear cc c0
                          obtain ⟨rfl, cc⟩ := hrel
                          have c0 := ((HG.out.chg cc (by simp)).cell 18).trans (gvC_get G 18 (by decide))
                          rw [HZ.out 18 (by decide) (by decide) (by decide) (by decide) (by decide)] at c0
                          go_wp2_with fail
                          go_loopw [13] (fun t wr => t = .int .i64 0 ∧ Chg w wr []) (fun _ _ => 0)
                          case atStart => exact ⟨rfl, cc⟩
                          case round =>
                            clear cc c0
                            obtain ⟨rfl, cc⟩ := hrel
                            have c0 := ((HG.out.chg cc (by simp)).cell 20).trans (gvC_get G 20 (by decide))
                            rw [HZ.out 20 (by decide) (by decide) (by decide) (by decide) (by decide)] at c0
                            go_wp2_with fail
                            go_loopw [14] (fun t wr => t = .int .i64 0 ∧ Chg w wr []) (fun _ _ => 0)
                            case atStart => exact ⟨rfl, cc⟩
                            case round =>
                              clear cc c0
                              obtain ⟨rfl, cc⟩ := hrel
                              have c0 := ((HG.out.chg cc (by simp)).cell 22).trans (gvC_get G 22 (by decide))
                              rw [HZ.out 22 (by decide) (by decide) (by decide) (by decide) (by decide)] at c0
                              go_wp2_with fail
                              go_loopw [15] (fun t wr => t = .int .i64 0 ∧ Chg w wr []) (fun _ _ => 0)
                              case atStart => exact ⟨rfl, cc⟩
                              case round =>
                                clear cc c0
                                obtain ⟨rfl, cc⟩ := hrel
                                have c0 := ((HG.out.chg cc (by simp)).cell 24).trans (gvC_get G 24 (by decide))
                                rw [HZ.out 24 (by decide) (by decide) (by decide) (by decide) (by decide)] at c0
                                go_wp2_with fail
                                go_loopw [16] (fun t wr => t = .int .i64 0 ∧ Chg w wr []) (fun _ _ => 0)
                                case atStart => exact ⟨rfl, cc⟩
                                case round =>
                                  clear cc c0
                                  obtain ⟨rfl, cc⟩ := hrel
                                  have c0 := ((HG.out.chg cc (by simp)).cell 26).trans (gvC_get G 26 (by decide))
                                  rw [HZ.out 26 (by decide) (by decide) (by decide) (by decide) (by decide)] at c0
                                  go_wp2_with fail
                                  go_loopw [17] (fun t wr => t = .int .i64 0 ∧ Chg w wr []) (fun _ _ => 0)
                                  case atStart => exact ⟨rfl, cc⟩
                                  case round =>
                                    clear cc c0
                                    obtain ⟨rfl, cc⟩ := hrel
                                    have c0 := ((HG.out.chg cc (by simp)).cell 28).trans (gvC_get G 28 (by decide))
                                    rw [HZ.out 28 (by decide) (by decide) (by decide) (by decide) (by decide)] at c0
                                    go_wp2_with fail
                                    go_ret
                                    exact ⟨rfl, cc⟩
end Go.Proofs.YtemjpibmefggnaaGreat

/- rimeref07.Place, Eval, At, IDs. -/
set_option linter.unusedVariables false
set_option linter.unusedSimpArgs false
set_option linter.unnecessarySimpa false
namespace Go.Proofs.YtemjpibmefggnaaGreat
open Go.RowKit N

theorem by8_hi8 (n i : Nat) (hn : n < 18446744073709551616) (hi : 8 ≤ i) : by8 (n : Int) i = 0 := by
  rw [by8_nat]
  have h : 256 ^ 8 ≤ 256 ^ i := Nat.pow_le_pow_right (by decide) hi
  rw [Nat.div_eq_of_lt (by omega)]
  rfl
set_option maxHeartbeats 8000000 in
set_option maxRecDepth 100000 in
theorem FromInt_q (n : Nat) (hn : n < 18446744073709551616) (w : World) :
    Calls Tryz.prog 93 #[.int .u64 (n : Int)] w fun e w' => e = .returned (fe (n : Int)) ∧ Chg w w' [] := by
  have B1 : Blk ((w.alloc (.cells z32 24)).alloc (.cells z32 24)) w.heap.size z32 24 := (Blk.new w z32 24).alloc _
  have B2 : Blk ((w.alloc (.cells z32 24)).alloc (.cells z32 24)) (w.heap.size + 1) z32 24 := by have h := Blk.new (w.alloc (.cells z32 24)) z32 24; simpa using h
  have C0 : Chg w ((w.alloc (.cells z32 24)).alloc (.cells z32 24)) [] := ((Chg.refl w []).alloc _).alloc _
  rw [show z32 = b32 (bx (n : Int) 0) from b32_z32.symm] at B2
  go_enter Tryz.func93, Tryz.ntmps93
  go_wp2_with fail
  go_loopw [4] (fun t wr => ∃ i : Nat, i ≤ 8 ∧ t = .int .i64 (i : Int) ∧ Blk wr w.heap.size z32 24 ∧ Blk wr (w.heap.size + 1) (b32 (bx (n : Int) i)) 24 ∧ Chg w wr []) (fun t _ => (8 - intOf t).toNat)
  case atStart => exact ⟨0, by omega, rfl, B1, B2, C0⟩
  case round =>
    obtain ⟨i, hi, rfl, b1, b2, c0⟩ := hrel
    clear B1 B2 C0
    by_cases h8 : i < 8
    · have hI : (i : Int) < 8 := by omega
      have hI3 : (i : Int) < 32 := by omega
      have hw8 : IntKind.i64.wrap (8 * ((i : Nat) : Int)) = 8 * ((i : Nat) : Int) := by rw [IntKind.wrap_i64]; omega
      have hw : IntKind.u64.wrap (8 * ((i : Nat) : Int)) = 8 * ((i : Nat) : Int) := by rw [IntKind.wrap_u64]; omega
      have htn : (8 * ((i : Nat) : Int)).toNat = 8 * i := by omega
      have hmi : min (8 * i) 64 = 8 * i := by omega
      have cB := (b2.cell i).trans (b32_get _ i (by omega))
      have fB := b2.frozen i
      have hv : ((n : Int) / 2 ^ (8 * i)) % 256 = by8 (n : Int) i := by
        unfold by8
        rw [show (256 : Int) ^ i = 2 ^ (8 * i) from by rw [Int.pow_mul]; rfl]
      have b2n : Blk (wr.setCell ⟨w.heap.size + 1, i, none⟩ (.int .u8 (by8 (n : Int) i))) (w.heap.size + 1) (b32 (bx (n : Int) (i + 1))) 24 := (b2.setCell i _).to (b32_set _ _ _ _ (fun j _ => bx_step _ _ _))
      have b1n := b1.setOther (show ¬ w.heap.size = w.heap.size + 1 by omega) i (.int .u8 (by8 (n : Int) i))
      have cn := c0.setNew (show w.heap.size ≤ w.heap.size + 1 by omega) i (.int .u8 (by8 (n : Int) i))
      clear b1 b2 c0
      go_wp2_with fail
      exact ⟨⟨i + 1, by omega, by go_num, b1n, b2n, cn⟩, by simp [intOf]; omega⟩
    · have h9 : i = 8 := by omega
      subst h9
      rw [b32_fe (n : Int) (bx (n : Int) 8) (fun j hj => by unfold bx; split; rfl; exact (by8_hi8 n j hn (by omega)).symm)] at b2
      go_wp2_with (first | (refine wpList_load_row rfl 24 _ rfl (w.heap.size + 1) rfl 24 _ (0, 0) _ b2 Tryz.underlying24 rfl feInfo ?_) | (refine wpList_store_row rfl 24 _ _ rfl w.heap.size _ rfl rfl 24 _ b1 feInfo rfl (feC_one _) ?_))
      exact bodyPost_ret (results_cell_row Tryz.results93 _ _ w.heap.size 24 (feC (n : Int)) (0, 0) _ rfl (Blk.setRow b1 _) Tryz.underlying24 rfl feInfo) rfl ⟨rfl, c0.setRowNew (Nat.le_refl _) _⟩
set_option maxHeartbeats 4000000 in
set_option maxRecDepth 100000 in
theorem Place_r (d : Int) (hd : 0 ≤ d ∧ d < 9223372036854775808) (w : World) : Calls Tryz.prog 41 #[.int .i64 d] w fun e w' => e = .returned (fe d) ∧ Chg w w' [] := by
  have F0 : Blk (w.alloc (.cells z32 24)) w.heap.size z32 24 := Blk.new w z32 24
  have hc : Chg w (w.alloc (.cells z32 24)) [] := (Chg.refl w []).alloc _
  have e1 : IntKind.u64.wrap d = d := by rw [IntKind.wrap_u64]; omega
  obtain ⟨n, rfl⟩ := Int.eq_ofNat_of_zero_le hd.1
  have hn : n < 18446744073709551616 := by omega
  clear hd
  go_enter Tryz.func41, Tryz.ntmps41
  go_wp2_with fail
  refine (FromInt_q n hn _).mono ?_
  rintro e v1 ⟨rfl, k⟩
  replace F0 := F0.chg k (by simp)
  replace hc := hc.trans1 k
  go_wp2_with (refine wpList_store_row rfl 24 _ _ rfl w.heap.size _ rfl rfl 24 _ F0 feInfo rfl (feC_one _) ?_)
  exact bodyPost_ret (results_cell_row Tryz.results41 _ _ w.heap.size 24 (feC (n : Int)) (0, 0) _ rfl (Blk.setRow F0 _) Tryz.underlying24 rfl feInfo) rfl ⟨rfl, hc.setRowNew (by omega) _⟩
theorem ev_step (f : Nat → Nat) (x : Int) (q N : Nat) (h : q < N) : ma (ev f x (q + 1) (N - (q + 1))) x ((f q : Nat) : Int) = ev f x q (N - q) := by
  obtain ⟨m, hm⟩ : ∃ m, N - q = m + 1 := ⟨N - q - 1, by omega⟩
  rw [show N - (q + 1) = m by omega, hm]; rfl
theorem z32_ev (f : Nat → Nat) (x : Int) (k : Nat) : z32 = feC (ev f x k 0) := by
  have h : z32 = feC 0 := by kernel_rfl
  exact h
set_option maxHeartbeats 8000000 in
set_option maxRecDepth 100000 in
theorem Eval_r (v : Value) (N : Nat) (f : Nat → Nat) (hN : N ≤ 4611686018427387904) (x : Int) (rx : R256 x) (w : World) (hL : Ls w v N f) :
    Calls Tryz.prog 15 #[v, fe x] w fun e w' => e = .returned (fe (ev f x 0 N)) ∧ Chg w w' [] := by
  have HRF : Hid (∀ i, i < N → R256 ((f i : Nat) : Int)) := fun i hi => by have := hL.1 i hi; exact ⟨by omega, by omega⟩
  obtain ⟨p, cp, rfl, hp⟩ := hL.range
  have HP : Hid (∀ i, i < N → ∃ g o, p = some ⟨g, o, none⟩ ∧ g < w.heap.size ∧ w.rangeAt g (o + i * 32) (feL (f i : Nat))) := hp
  have HN : Hid (N ≤ 4611686018427387904) := hN
  have e0 : IntKind.i64.wrap ((N : Int) - 1) = (N : Int) - 1 := by rw [IntKind.wrap_i64]; omega
  have HA : True := trivial
  clear hp hL hN
  go_enter Tryz.func15, Tryz.ntmps15
  go_wp2_with (first
    | (clear HA; with_reducible refine alloc_w rfl 24 rfl (.agg z32) zeroSc z32 rfl ?_; intro rb w2 hrb Br k2)
    | (with_reducible refine alloc_w rfl 24 rfl (.agg z32) zeroSc z32 rfl ?_; intro yb w3 hyb By k3))
  have k1 : Chg w (w.alloc (.cells (feC x) 24)) [] := (Chg.refl w []).alloc _
  have Bx : Blk (w.alloc (.cells (feC x) 24)) w.heap.size (feC x) 24 := Blk.new w _ _
  have HYn : Hid (w.heap.size ≤ yb) := by show w.heap.size ≤ yb; have := k1.size; have := k2.size; omega
  have HRn : Hid (w.heap.size ≤ rb) := by show w.heap.size ≤ rb; have := k1.size; omega
  have hxl := Bx.lt
  have hrl := Br.lt
  have HXY : Hid (¬ w.heap.size ∈ [yb]) := by show ¬ w.heap.size ∈ [yb]; have := k2.size; simp; omega
  have HRY : Hid (¬ rb ∈ [yb]) := by show ¬ rb ∈ [yb]; simp; omega
  have C : Chg w w3 [] := (((Chg.refl w []).trans1 k1).trans1 k2).trans1 k3
  replace Bx := (Bx.chg k2 (by simp)).chg k3 (by simp)
  replace Br := Br.chg k3 (by simp)
  replace By : Blk w3 yb (feC (ev f x N (N - N))) 24 := By.to (by rw [Nat.sub_self]; exact z32_ev f x N)
  clear k1 k2 k3 hrb hyb hxl hrl
  go_loopw [6] (fun t wr => ∃ q : Nat, q ≤ N ∧ t = .int .i64 ((q : Int) - 1) ∧ Blk wr w.heap.size (feC x) 24 ∧ Blk wr rb z32 24 ∧ Blk wr yb (feC (ev f x q (N - q))) 24 ∧ Chg w wr []) (fun t _ => (intOf t + 1).toNat)
  case atStart => exact ⟨N, Nat.le_refl _, rfl, Bx, Br, By, C⟩
  case round =>
    clear Bx Br By C
    obtain ⟨q, hq, rfl, Bx, Br, By, C⟩ := hrel
    rcases q with _ | q
    · have hI : ¬ (0 : Int) ≤ ((0 : Nat) : Int) - 1 := by omega
      rw [Nat.sub_zero] at By
      go_wp2_with (first
        | (refine load_b By 24 _ Tryz.underlying24 rfl rfl rfl rfl feInfo ?_)
        | (refine store_w Br rfl 24 _ _ (feC (ev f x 0 N)) rfl rfl rfl feInfo rfl (feC_one _) ?_; intro w7 B7 k7))
      exact bodyPost_ret (results_cell_row Tryz.results15 _ _ rb 24 (feC (ev f x 0 N)) (0, 0) _ rfl B7 Tryz.underlying24 rfl feInfo) rfl ⟨rfl, C.new k7 HRn.out⟩
    · have eq1 : ((q + 1 : Nat) : Int) - 1 = (q : Int) := by omega
      have hqN : q < N := by omega
      have HQ : Hid (q ≤ N) := by show q ≤ N; omega
      rw [eq1]
      have hI : (0 : Int) ≤ (q : Int) := by omega
      have hI2 : (q : Int) < (N : Int) := by omega
      have e1 : IntKind.i64.wrap ((q : Int) - 1) = (q : Int) - 1 := by have := HN.out; rw [IntKind.wrap_i64]; omega
      have HMs : Hid ((intOf (.int .i64 ((q : Int) - 1)) + 1).toNat < (intOf (.int .i64 (q : Int)) + 1).toNat) := by show (intOf (.int .i64 ((q : Int) - 1)) + 1).toNat < (intOf (.int .i64 (q : Int)) + 1).toNat; simp [intOf] <;> omega
      have HR1 : Hid (R256 (ev f x (q + 1) (N - (q + 1)))) := r256_rl (ev_rl f x _ _)
      have HR2 : Hid (R256 x) := rx
      have HR3 : Hid (R256 ((f q : Nat) : Int)) := HRF.out q hqN
      have HS : Hid (ma (ev f x (q + 1) (N - (q + 1))) x ((f q : Nat) : Int) = ev f x q (N - q)) := ev_step f x q N hqN
      obtain ⟨gp, o, rfl, hg, hF⟩ := HP.out q hqN
      have hF' := rangeAt_chg hF hg C (by simp)
      have HgS : Hid (gp < wr.heap.size) := Nat.lt_of_lt_of_le hg C.size
      have HG : Hid (¬ gp ∈ [yb]) := by have := HYn.out; show ¬ gp ∈ [yb]; simp; omega
      clear hF hg hqN hq HP HRF
      go_wp2_with fail
      refine wp_region_held_drew (S := fun w' => Chg wr w' [yb]) (by kernel_rfl) ((Chg.refl wr _).drew) (fun hHeld => ?_)
      replace By := By.drew
      have C3 := (Chg.refl wr []).drew
      refine take_load 1 (some 15) (feC x) rfl (by kernel_rfl) (by kernel_rfl) (by kernel_rfl) (fun _ _ _ h => h) rfl rfl 24 _ rfl w.heap.size rfl 24 _ (fun w h => Bx.chg h HXY.out) Tryz.underlying24 rfl (by first | exact feInfo | kernel_rfl) hHeld ?_
      try simp only [Act.put, List.setIfInBounds_toArray, List.set_cons_zero, List.set_cons_succ]
      refine take_val (v := ?_) 2 (some 16) rfl (by kernel_rfl) (by kernel_rfl) (by kernel_rfl) (fun _ _ _ h => h) rfl rfl (fun w hSw => ?_) hHeld ?_
      rotate_left
      · (go_simp; try with_reducible rfl)
      try simp only [Act.put, List.setIfInBounds_toArray, List.set_cons_zero, List.set_cons_succ]
      refine take_val (v := ?_) 3 (some 17) rfl (by kernel_rfl) (by kernel_rfl) (by kernel_rfl) (fun _ _ _ h => h) rfl rfl (fun w hSw => ?_) hHeld ?_
      rotate_left
      · (go_simp; try with_reducible rfl)
      try simp only [Act.put, List.setIfInBounds_toArray, List.set_cons_zero, List.set_cons_succ]
      refine take_val (v := ?_) 4 (some 18) rfl (by kernel_rfl) (by kernel_rfl) (by kernel_rfl) (fun _ _ _ h => h) rfl rfl (fun w hSw => ?_) hHeld ?_
      rotate_left
      · (go_simp; try with_reducible rfl)
      try simp only [Act.put, List.setIfInBounds_toArray, List.set_cons_zero, List.set_cons_succ]
      refine take_val (v := (.agg (feC ((f q : Nat) : Int)))) 5 (some 19) rfl (by kernel_rfl) (by kernel_rfl) (by kernel_rfl) (fun _ _ _ h => h) rfl rfl (fun w hSw => ?_) hHeld ?_
      · exact exec_load_m w 24 _ rfl gp (o + q * 32) rfl (feL ((f q : Nat) : Int)) _ (rangeAt_chg hF' HgS.out hSw HG.out) Tryz.underlying24 rfl feInfo
      try simp only [Act.put, List.setIfInBounds_toArray, List.set_cons_zero, List.set_cons_succ]
      refine wpAnyH_ready (rs := [0]) (by kernel_rfl) (by simp) ?_
      refine AllReadyH.cons (o := _) rfl (fun K hK => ?_) ?_
      ·
        rw [if_pos (by rfl)]
        refine wp_load_row 24 _ rfl yb rfl 24 _ (0, 0) _ By Tryz.underlying24 rfl feInfo ?_
        refine hK.out _ _ (hHeld) (fun hHeld => ?_)
        clear hK K
        try simp only [Act.put, List.setIfInBounds_toArray, List.set_cons_zero, List.set_cons_succ]
        refine wpAnyH_ready (rs := [6]) (by kernel_rfl) (by simp) ?_
        refine AllReadyH.cons (o := _) rfl (fun K hK => ?_) ?_
        ·
          go_simp
          refine (MulAdd_q _ _ _ HR1.out HR2.out HR3.out _).mono ?_
          rintro e w6 ⟨rfl, k6⟩
          rw [HS.out]
          go_wp2_with fail
          refine hK.out _ _ (hHeld.trans1 k6.wide) (fun hHeld => ?_)
          clear hK K
          try simp only [Act.put, List.setIfInBounds_toArray, List.set_cons_zero, List.set_cons_succ]
          refine wpAnyH_ready (rs := [7]) (by kernel_rfl) (by simp) ?_
          refine AllReadyH.cons (o := _) rfl (fun K hK => ?_) ?_
          ·
            rw [if_pos (by rfl)]
            refine wp_store_w (By.chg k6 (by simp)) 24 _ _ (feC (ev f x q (N - q))) rfl rfl rfl feInfo rfl (feC_one _) ?_
            intro w7 By7 k7
            refine hK.out _ _ (hHeld.trans1 k7) (fun hHeld => ?_)
            clear hK K
            try simp only [Act.put, List.setIfInBounds_toArray, List.set_cons_zero, List.set_cons_succ]
            refine wpAnyH_done (by kernel_rfl) ?_ _
            replace C := ((C.trans1 C3).trans1 k6).new k7 HYn.out
            replace Bx := Bx.chg hHeld HXY.out
            replace Br := Br.chg hHeld HRY.out
            clear k6 k7 C3 hHeld By
            go_wp2_with fail
            exact ⟨⟨q, HQ.out, rfl, Bx, Br, By7, C⟩, HMs.out⟩
          exact AllReadyH.nil
        exact AllReadyH.nil
      exact AllReadyH.nil

set_option maxHeartbeats 8000000 in
set_option maxRecDepth 100000 in
theorem At_rbad (v : Value) (d : Int) (hd : ¬ (1 ≤ d ∧ d ≤ 255)) (w : World) :
    Calls Tryz.prog 10 #[v, .int .i64 d] w fun e w' => e = .returned (.tuple #[fe 0, .int .i64 4]) ∧ Chg w w' [] := by
  go_enter Tryz.func10, Tryz.ntmps10
  by_cases h1 : 1 ≤ d
  · have h2 : ¬ d ≤ 255 := fun h => hd ⟨h1, h⟩
    clear hd
    go_wp2_with (first
      | (with_reducible refine alloc_w rfl 24 rfl (.agg z32) zeroSc z32 rfl ?_; intro rb w2 hrb Br k2)
      | (refine gl_build (by rfl) 24 #[] rfl (feC 0) (by kernel_rfl) ?_)
      | (refine store_w Br rfl 24 _ _ (feC 0) rfl rfl rfl feInfo rfl (feC_one _) ?_; intro w7 B7 k7))
    exact bodyPost_ret (results_cell_tmp Tryz.results10 _ _ rb 24 (feC 0) _ _ rfl rfl B7 Tryz.underlying24 rfl feInfo) rfl ⟨rfl, ((Chg.refl w []).trans1 k2).new k7 hrb⟩
  · clear hd
    go_wp2_with (first
      | (with_reducible refine alloc_w rfl 24 rfl (.agg z32) zeroSc z32 rfl ?_; intro rb w2 hrb Br k2)
      | (refine gl_build (by rfl) 24 #[] rfl (feC 0) (by kernel_rfl) ?_)
      | (refine store_w Br rfl 24 _ _ (feC 0) rfl rfl rfl feInfo rfl (feC_one _) ?_; intro w7 B7 k7))
    exact bodyPost_ret (results_cell_tmp Tryz.results10 _ _ rb 24 (feC 0) _ _ rfl rfl B7 Tryz.underlying24 rfl feInfo) rfl ⟨rfl, ((Chg.refl w []).trans1 k2).new k7 hrb⟩
set_option maxHeartbeats 8000000 in
set_option maxRecDepth 100000 in
theorem At_rok (v : Value) (N : Nat) (f : Nat → Nat) (hN : N ≤ 4611686018427387904) (d : Int) (hd : 1 ≤ d ∧ d ≤ 255) (w : World) (hL : Ls w v N f) :
    Calls Tryz.prog 10 #[v, .int .i64 d] w fun e w' => e = .returned (.tuple #[fe (ev f d 0 N), .int .i64 0]) ∧ Chg w w' [] := by
  have h1 := hd.1
  have h2 := hd.2
  have HP : Hid (0 ≤ d ∧ d < 9223372036854775808) := by show 0 ≤ d ∧ d < 9223372036854775808; omega
  have HR : Hid (R256 d) := by show R256 d; unfold R256; omega
  clear hd
  go_enter Tryz.func10, Tryz.ntmps10
  go_wp2_with (with_reducible refine alloc_w rfl 24 rfl (.agg z32) zeroSc z32 rfl ?_; intro rb w2 hrb Br k2)
  refine (Place_r d HP.out _).mono ?_
  rintro e w3 ⟨rfl, k3⟩
  go_wp2_with fail
  refine (Eval_r v N f hN d HR.out _ ((hL.chg0 k2).chg0 k3)).mono ?_
  rintro e w4 ⟨rfl, k4⟩
  go_wp2_with (refine store_w ((Br.chg k3 (by simp)).chg k4 (by simp)) rfl 24 _ _ (feC (ev f d 0 N)) rfl rfl rfl feInfo rfl (feC_one _) ?_; intro w7 B7 k7)
  exact bodyPost_ret (results_cell_tmp Tryz.results10 _ _ rb 24 (feC (ev f d 0 N)) _ _ rfl rfl B7 Tryz.underlying24 rfl feInfo) rfl ⟨rfl, ((((Chg.refl w []).trans1 k2).trans1 k3).trans1 k4).new k7 hrb⟩
theorem idE_pre {f : Nat → Int} {k N : Nat} {e : Int} (hk : k ≤ N) (h : idE f k = e) (he : ¬ e = 0) (hN : ¬ N = 0) : idR f N = e := by
  unfold idR; rw [if_neg hN, idE_stays f (k := k) (by rw [h]; exact he) N hk, h]
theorem kn_false {f : Nat → Int} {i : Nat} {n : Nat} (hn : f i = (n : Int)) (h : ∀ j, j < i → ¬ f j = f i) : kn f i n = false := by
  unfold kn; rw [List.any_eq_false]; intro j hj; have := h j (List.mem_range.1 hj); rw [hn] at this; simpa using this
theorem kn_true {f : Nat → Int} {i k : Nat} {n : Nat} (hn : f i = (n : Int)) (hk : k < i) (h : f k = f i) : kn f i n = true := by
  unfold kn; rw [List.any_eq_true]; exact ⟨k, List.mem_range.2 hk, by rw [h, hn]; simp⟩
set_option maxHeartbeats 8000000 in
set_option maxRecDepth 100000 in
theorem IDs_r (v : Value) (N : Nat) (f : Nat → Int) (hN : N ≤ 4611686018427387904) (w : World) (hL : Il w v N f) :
    Calls Tryz.prog 45 #[v] w fun e w' => e = .returned (.int .i64 (idR f N)) ∧ Chg w w' [] := by
  obtain ⟨p, cp, rfl, hp⟩ := hL.form
  have HN : Hid (N ≤ 4611686018427387904) := hN
  have HP : Hid (∀ i, i < N → ∃ g o, p = some ⟨g, o, none⟩ ∧ g < w.heap.size ∧ w.cell? ⟨g, o + i, none⟩ = some (.int .i64 (f i))) := hp
  clear hp hL hN
  go_enter Tryz.func45, Tryz.ntmps45
  by_cases hZ : N = 0
  · subst hZ
    go_wp2_with fail
    go_ret
    exact ⟨rfl, Chg.refl w []⟩
  have hz : ¬ (N : Int) = 0 := by omega
  have HZ : Hid (¬ N = 0) := hZ
  clear hZ
  go_wp2_with fail
  go_loopw [3] (fun t wr => ∃ i : Nat, i ≤ N ∧ t = .int .i64 (i : Int) ∧ idE f i = 0 ∧ Chg w wr []) (fun t _ => (N - intOf t).toNat)
  case atStart => exact ⟨0, Nat.zero_le _, rfl, rfl, Chg.refl w []⟩
  case round =>
    obtain ⟨i, hi, rfl, hE, C⟩ := hrel
    by_cases h : i < N
    · have hI : (i : Int) < (N : Int) := by omega
      have hI0 : (0 : Int) ≤ (i : Int) := by omega
      have e1 : IntKind.i64.wrap ((i : Int) + 1) = (i : Int) + 1 := by have := HN.out; rw [IntKind.wrap_i64]; omega
      have HMs : Hid _ := mN N i h
      have HIN : Hid (i + 1 ≤ N) := h
      have HE : Hid (idE f i = 0) := hE
      obtain ⟨g, o, rfl, hg, hc⟩ := HP.out i h
      have HPg : Hid (∀ j, j < N → w.cell? ⟨g, o + j, none⟩ = some (.int .i64 (f j))) := fun j hj => by
        obtain ⟨g', o', e, _, q⟩ := HP.out j hj
        simp only [Option.some.injEq, Addr.mk.injEq, and_true] at e
        obtain ⟨rfl, rfl⟩ := e
        exact q
      have HGw : Hid (g < w.heap.size) := hg
      have hc' := cell_chg hc hg C (by simp)
      clear h hi hE hc hg HP
      by_cases h1 : 1 ≤ f i
      · by_cases h2 : f i ≤ 255
        · obtain ⟨n, hn⟩ := Int.eq_ofNat_of_zero_le (show 0 ≤ f i by omega)
          have HN1 : Hid (f i = (n : Int)) := hn
          have HB : Hid (1 ≤ f i ∧ f i ≤ 255) := ⟨h1, h2⟩
          clear hn
          go_wp2_with fail
          clear h1 h2 hc'
          go_loopw [4] (fun t wr => ∃ k : Nat, k ≤ i ∧ t = .int .i64 (k : Int) ∧ (∀ j, j < k → ¬ f j = f i) ∧ Chg w wr []) (fun t _ => (i - intOf t).toNat)
          case atStart => exact ⟨0, Nat.zero_le _, rfl, fun j hj => by omega, C⟩
          case round =>
            clear C
            obtain ⟨k, hk, rfl, hK, C⟩ := hrel
            by_cases h : k < i
            · have hI3 : (k : Int) < (i : Int) := by omega
              have hI4 : (0 : Int) ≤ (k : Int) := by omega
              have hI5 : (k : Int) < (N : Int) := by omega
              have e2 : IntKind.i64.wrap ((k : Int) + 1) = (k : Int) + 1 := by have := HN.out; have := HIN.out; rw [IntKind.wrap_i64]; omega
              have HMk : Hid _ := mN i k h
              have HKi : Hid (k + 1 ≤ i) := h
              have HK : Hid (wr.cell? ⟨g, o + k, none⟩ = some (.int .i64 (f k))) := cell_chg (HPg.out k (by have := HIN.out; omega)) HGw.out C (by simp)
              have HI : Hid (wr.cell? ⟨g, o + i, none⟩ = some (.int .i64 (f i))) := cell_chg (HPg.out i (by have := HIN.out; omega)) HGw.out C (by simp)
              have HGl : Hid (g < wr.heap.size) := Nat.lt_of_lt_of_le HGw.out C.size
              by_cases hq : f k = f i
              · have HE5 : Hid (idR f N = 5) := idE_pre HIN.out (idE_twice HE.out HB.out HN1.out (kn_true HN1.out HKi.out hq)) (by decide) HZ.out
                clear h hk hK
                go_wp2_with fail
                refine wp_region_held_drew (S := fun w' => Chg wr w' []) (by kernel_rfl) ((Chg.refl wr _).drew) (fun hHeld => ?_)
                refine take_val (v := ?_) 0 (some 31) rfl (by kernel_rfl) (by kernel_rfl) (by kernel_rfl) (fun _ _ _ h => h) rfl rfl (fun w hSw => ?_) hHeld ?_
                rotate_left
                · (go_simp; try with_reducible rfl)
                try simp only [Act.put, List.setIfInBounds_toArray, List.set_cons_zero, List.set_cons_succ]
                refine take_val (v := ?_) 1 (some 32) rfl (by kernel_rfl) (by kernel_rfl) (by kernel_rfl) (fun _ _ _ h => h) rfl rfl (fun w hSw => ?_) hHeld ?_
                rotate_left
                · (go_simp; try with_reducible rfl)
                try simp only [Act.put, List.setIfInBounds_toArray, List.set_cons_zero, List.set_cons_succ]
                refine take_val (v := ?_) 2 (some 33) rfl (by kernel_rfl) (by kernel_rfl) (by kernel_rfl) (fun _ _ _ h => h) rfl rfl (fun w hSw => ?_) hHeld ?_
                rotate_left
                · (go_simp; try with_reducible rfl)
                try simp only [Act.put, List.setIfInBounds_toArray, List.set_cons_zero, List.set_cons_succ]
                refine take_val (v := (.int .i64 (f k))) 3 (some 34) rfl (by kernel_rfl) (by kernel_rfl) (by kernel_rfl) (fun _ _ _ h => h) rfl rfl (fun w hSw => ?_) hHeld ?_
                · have cx := cell_chg HK.out HGl.out hSw (by simp)
                  (go_simp; try with_reducible rfl)
                try simp only [Act.put, List.setIfInBounds_toArray, List.set_cons_zero, List.set_cons_succ]
                refine take_val (v := ?_) 4 (some 35) rfl (by kernel_rfl) (by kernel_rfl) (by kernel_rfl) (fun _ _ _ h => h) rfl rfl (fun w hSw => ?_) hHeld ?_
                rotate_left
                · (go_simp; try with_reducible rfl)
                try simp only [Act.put, List.setIfInBounds_toArray, List.set_cons_zero, List.set_cons_succ]
                refine take_val (v := ?_) 5 (some 36) rfl (by kernel_rfl) (by kernel_rfl) (by kernel_rfl) (fun _ _ _ h => h) rfl rfl (fun w hSw => ?_) hHeld ?_
                rotate_left
                · (go_simp; try with_reducible rfl)
                try simp only [Act.put, List.setIfInBounds_toArray, List.set_cons_zero, List.set_cons_succ]
                refine take_val (v := ?_) 6 (some 37) rfl (by kernel_rfl) (by kernel_rfl) (by kernel_rfl) (fun _ _ _ h => h) rfl rfl (fun w hSw => ?_) hHeld ?_
                rotate_left
                · (go_simp; try with_reducible rfl)
                try simp only [Act.put, List.setIfInBounds_toArray, List.set_cons_zero, List.set_cons_succ]
                refine take_val (v := (.int .i64 (f i))) 7 (some 38) rfl (by kernel_rfl) (by kernel_rfl) (by kernel_rfl) (fun _ _ _ h => h) rfl rfl (fun w hSw => ?_) hHeld ?_
                · have cx := cell_chg HI.out HGl.out hSw (by simp)
                  (go_simp; try with_reducible rfl)
                try simp only [Act.put, List.setIfInBounds_toArray, List.set_cons_zero, List.set_cons_succ]
                refine take_val (v := ?_) 8 (some 39) rfl (by kernel_rfl) (by kernel_rfl) (by kernel_rfl) (fun _ _ _ h => h) rfl rfl (fun w hSw => ?_) hHeld ?_
                rotate_left
                · (go_simp; try with_reducible rfl)
                try simp only [Act.put, List.setIfInBounds_toArray, List.set_cons_zero, List.set_cons_succ]
                refine wpAnyH_done (by kernel_rfl) ?_ _
                replace C := C.trans1 hHeld
                clear hHeld
                go_wp2_with fail
                go_ret
                exact ⟨by rw [HE5.out]; rfl, C⟩
              · have HNk : Hid (∀ j, j < k + 1 → ¬ f j = f i) := fun j hj => by
                  by_cases h9 : j = k
                  · rw [h9]; exact hq
                  · exact hK j (by omega)
                clear h hk hK
                go_wp2_with fail
                refine wp_region_held_drew (S := fun w' => Chg wr w' []) (by kernel_rfl) ((Chg.refl wr _).drew) (fun hHeld => ?_)
                refine take_val (v := ?_) 0 (some 31) rfl (by kernel_rfl) (by kernel_rfl) (by kernel_rfl) (fun _ _ _ h => h) rfl rfl (fun w hSw => ?_) hHeld ?_
                rotate_left
                · (go_simp; try with_reducible rfl)
                try simp only [Act.put, List.setIfInBounds_toArray, List.set_cons_zero, List.set_cons_succ]
                refine take_val (v := ?_) 1 (some 32) rfl (by kernel_rfl) (by kernel_rfl) (by kernel_rfl) (fun _ _ _ h => h) rfl rfl (fun w hSw => ?_) hHeld ?_
                rotate_left
                · (go_simp; try with_reducible rfl)
                try simp only [Act.put, List.setIfInBounds_toArray, List.set_cons_zero, List.set_cons_succ]
                refine take_val (v := ?_) 2 (some 33) rfl (by kernel_rfl) (by kernel_rfl) (by kernel_rfl) (fun _ _ _ h => h) rfl rfl (fun w hSw => ?_) hHeld ?_
                rotate_left
                · (go_simp; try with_reducible rfl)
                try simp only [Act.put, List.setIfInBounds_toArray, List.set_cons_zero, List.set_cons_succ]
                refine take_val (v := (.int .i64 (f k))) 3 (some 34) rfl (by kernel_rfl) (by kernel_rfl) (by kernel_rfl) (fun _ _ _ h => h) rfl rfl (fun w hSw => ?_) hHeld ?_
                · have cx := cell_chg HK.out HGl.out hSw (by simp)
                  (go_simp; try with_reducible rfl)
                try simp only [Act.put, List.setIfInBounds_toArray, List.set_cons_zero, List.set_cons_succ]
                refine take_val (v := ?_) 4 (some 35) rfl (by kernel_rfl) (by kernel_rfl) (by kernel_rfl) (fun _ _ _ h => h) rfl rfl (fun w hSw => ?_) hHeld ?_
                rotate_left
                · (go_simp; try with_reducible rfl)
                try simp only [Act.put, List.setIfInBounds_toArray, List.set_cons_zero, List.set_cons_succ]
                refine take_val (v := ?_) 5 (some 36) rfl (by kernel_rfl) (by kernel_rfl) (by kernel_rfl) (fun _ _ _ h => h) rfl rfl (fun w hSw => ?_) hHeld ?_
                rotate_left
                · (go_simp; try with_reducible rfl)
                try simp only [Act.put, List.setIfInBounds_toArray, List.set_cons_zero, List.set_cons_succ]
                refine take_val (v := ?_) 6 (some 37) rfl (by kernel_rfl) (by kernel_rfl) (by kernel_rfl) (fun _ _ _ h => h) rfl rfl (fun w hSw => ?_) hHeld ?_
                rotate_left
                · (go_simp; try with_reducible rfl)
                try simp only [Act.put, List.setIfInBounds_toArray, List.set_cons_zero, List.set_cons_succ]
                refine take_val (v := (.int .i64 (f i))) 7 (some 38) rfl (by kernel_rfl) (by kernel_rfl) (by kernel_rfl) (fun _ _ _ h => h) rfl rfl (fun w hSw => ?_) hHeld ?_
                · have cx := cell_chg HI.out HGl.out hSw (by simp)
                  (go_simp; try with_reducible rfl)
                try simp only [Act.put, List.setIfInBounds_toArray, List.set_cons_zero, List.set_cons_succ]
                refine take_val (v := ?_) 8 (some 39) rfl (by kernel_rfl) (by kernel_rfl) (by kernel_rfl) (fun _ _ _ h => h) rfl rfl (fun w hSw => ?_) hHeld ?_
                rotate_left
                · (go_simp; try with_reducible rfl)
                try simp only [Act.put, List.setIfInBounds_toArray, List.set_cons_zero, List.set_cons_succ]
                refine wpAnyH_done (by kernel_rfl) ?_ _
                replace C := C.trans1 hHeld
                clear hHeld
                go_wp2_with fail
                go_roundw
                case rel => exact ⟨k + 1, HKi.out, by go_num, HNk.out, C⟩
                case measure => exact HMk.out
            · obtain rfl : k = i := by omega
              have hI3 : ¬ (k : Int) < (k : Int) := by omega
              have HE0 : Hid (idE f (k + 1) = 0) := idE_ok HE.out HB.out HN1.out (kn_false HN1.out hK)
              clear h hk hK
              go_wp2_with fail
              exact ⟨⟨k + 1, HIN.out, by omega, HE0.out⟩, by have := HMs.out; omega⟩
        · have HE4 : Hid (idR f N = 4) := idE_pre HIN.out (idE_bad HE.out (fun h => h2 h.2)) (by decide) HZ.out
          go_wp2_with fail
          go_ret
          exact ⟨by rw [HE4.out]; rfl, C⟩
      · have HE4 : Hid (idR f N = 4) := idE_pre HIN.out (idE_bad HE.out (fun h => h1 h.1)) (by decide) HZ.out
        go_wp2_with fail
        go_ret
        exact ⟨by rw [HE4.out]; rfl, C⟩
    · obtain rfl : i = N := by omega
      have hI : ¬ (i : Int) < (i : Int) := by omega
      go_wp2_with fail
      go_ret
      exact ⟨by unfold idR; rw [if_neg HZ.out, hE]; rfl, C⟩
end Go.Proofs.YtemjpibmefggnaaGreat
