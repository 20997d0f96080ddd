/- (*Given).Scalars. -/
import Derived.Test.YtcdgkhejbdlapaaGvSc
set_option linter.unusedVariables false
set_option linter.unusedSimpArgs false
set_option linter.unnecessarySimpa false
namespace Go.Proofs.Ytcdgkhejbdlapaa
open Go.RowKit N

theorem z32L : z32 = (z32.toList).toArray := rfl
theorem z32_ok : (z32.toList).length = 32 ∧ ∀ v ∈ z32.toList, v.oneCell' = true := ⟨rfl, by simp [z32, Value.oneCell']⟩
theorem make_si (r : Nat) (hr : r ≤ 4398046511104) (W : World) : (Instr.makeSlice 60 (.int .i64 (r : Int)) (.int .i64 (r : Int))).run Try.prog W = .ok (.slice (some ⟨W.heap.size, 0, none⟩) r r) (W.alloc (.cells (rL 32 r fun _ => z32.toList).toArray 24)) := by
  obtain ⟨i, hi, hz, h1, h2⟩ := scRow
  have h := run_make (P := Try.prog) W 60 24 i (.agg z32) Try.underlying60 hi hz .i64 .i64 (r : Int) (r : Int) (by omega) (by omega) (by rw [h2]; omega) (by omega)
  rw [h, h1, Int.toNat_natCast]
  show Result.ok _ (W.alloc (.cells (madeCells z32 (r * 32)) 24)) = _
  rw [made_r z32 32 r rfl]
theorem listRowS : ∃ i, Try.prog.info? 60 = some i ∧ i.zero = some (.slice none 0 0) ∧ i.size = 1 ∧ i.bytes = 24 := by
  have h : (Try.prog.info? 60).map (fun i => (i.zero, i.size, i.bytes)) = some (some (.slice none 0 0), 1, 24) := by kernel_rfl
  cases hi : Try.prog.info? 60 with
  | none => rw [hi] at h; simp at h
  | some i => rw [hi] at h; simp at h; exact ⟨i, rfl, h.1, h.2.1, h.2.2⟩
theorem mk_ok (i : Nat) : (fR (mkS 987) i).length = 32 ∧ ∀ v ∈ fR (mkS 987) i, v.oneCell' = true := feL_ok _
/-- What Scalars answers and leaves. -/
def GvP (w w' : World) (gb base n m : Nat) (f : Nat → Nat) (G : Nat → Value) (Kn : Nat) (N : Nat → Nat) (F : Nat → Nat → List Value) (r : Value) : Prop :=
  ∃ o la lb, r = .slice (some ⟨o, 0, none⟩) n m ∧ w.heap.size ≤ o ∧ Chg w w' (gch gb G 8) ∧ Blk w' o (rL 32 m (gvR (fR (mkS 987)) (fR f) n)).toArray 24 ∧
    Gv w' gb base (upV (upV G 8 la) (8 + 1) lb) 8 42 60 24 32 (Kn + 1) (fun j => if j = Kn then m else N j) (fun j => if j = Kn then gvR (fR (mkS 987)) (fR f) n else F j)
theorem there_fe {w : World} {b o : Nat} (h : w.there b o 32) (n : Int) : w.there b o (feC n).size := h
set_option maxHeartbeats 8000000 in
set_option maxRecDepth 100000 in
theorem GivenScalars_s (gb n base Kn : Nat) (v : Value) (f : Nat → Nat) (G : Nat → Value) (N : Nat → Nat) (F : Nat → Nat → List Value) (w : World) (hn : n ≤ 4398046511100) (hK : Kn ≤ 1000) (hbase : base ≤ w.heap.size) (hv : Rl w 32 v n (fR f))
    (hg : Gv w gb base G 8 42 60 24 32 Kn N F) :
    Calls Try.prog 38 #[.pointer (some ⟨gb, 0, none⟩), v] w fun e w' => ∃ r, e = .returned r ∧ GvP w w' gb base n (n + 3) f G Kn N F r := by
  obtain ⟨vp, vc, rfl, hp⟩ := hv.form
  obtain ⟨m, hm⟩ : ∃ m, n + 3 = m := ⟨_, rfl⟩
  have HM : Hid (n + 3 = m) := hm
  have e1 : IntKind.i64.wrap ((n : Int) + 3) = (m : Int) := by rw [IntKind.wrap_i64]; omega
  have hmk := make_si m (by omega)
  have B0 := Blk.new w (rL 32 m fun _ => z32.toList).toArray 24
  have B1 : Blk (w.alloc (.cells (rL 32 m fun _ => z32.toList).toArray 24)) w.heap.size (rL 32 m (gvR1 (fR (mkS 987)) z32.toList 0)).toArray 24 := B0.to (congrArg List.toArray (rL_congr fun j _ => (if_neg (by omega)).symm))
  have C1 := (Chg.refl w []).alloc (.cells (rL 32 m fun _ => z32.toList).toArray 24)
  have hnm : n < m := by omega
  have hmb : m ≤ 4398046511103 := by omega
  rw [hm]
  clear hm B0 hn
  go_enter Try.func38, Try.ntmps38
  go_wp2_with fail
  clear hmk
  generalize (rL 32 m fun _ => z32.toList) = L0 at *
  go_loopw [6] (fun t wr => ∃ i : Nat, i ≤ m ∧ t = .int .i64 (i : Int) ∧ Blk wr w.heap.size (rL 32 m (gvR1 (fR (mkS 987)) z32.toList i)).toArray 24 ∧ Chg w wr []) (fun t _ => ((m : Int) - intOf t).toNat)
  case atStart => exact ⟨0, by omega, rfl, B1, C1⟩
  case round =>
    clear B1 C1
    obtain ⟨i, hi, rfl, b0, c0⟩ := hrel
    by_cases h8 : i < m
    · have hI : (i : Int) < (m : Int) := by omega
      have hI0 : (0 : Int) ≤ (i : Int) := by omega
      have HI : Hid (i < m) := h8
      have HI1 : Hid (i ≤ 140737488355331) := by show i ≤ 140737488355331; omega
      have e2 : IntKind.i64.wrap ((i : Int) + 1) = (i : Int) + 1 := by rw [IntKind.wrap_i64]; omega
      have HJ : Hid (((m : Int) - intOf (.int .i64 ((i : Int) + 1))).toNat < ((m : Int) - intOf (.int .i64 (i : Int))).toNat) := by show ((m : Int) - intOf (.int .i64 ((i : Int) + 1))).toNat < ((m : Int) - intOf (.int .i64 (i : Int))).toNat; simp [intOf]; omega
      have HS : Hid (w.heap.size ≤ w.heap.size) := Nat.le_refl _
      clear h8 hi
      go_wp2_with fail
      refine (markScalars_s 987 i (by decide) HI1.out _).mono ?_
      rintro e v1 ⟨rfl, k1⟩
      obtain ⟨X, hX⟩ : ∃ X : Int, ((mkS 987 i : Nat) : Int) = X := ⟨_, rfl⟩
      have eX : fR (mkS 987) i = feL X := by show feL _ = _; rw [hX]
      rw [hX]
      have q0 := b0.chg k1 (by simp)
      have c1 := c0.trans1 k1
      have HO : Hid (Rok 32 m (gvR1 (fR (mkS 987)) z32.toList i)) := gvR1_ok mk_ok z32_ok i
      have HF : Hid (upR (gvR1 (fR (mkS 987)) z32.toList i) i (feL X) = gvR1 (fR (mkS 987)) z32.toList (i + 1)) := by rw [← eX]; exact gvR1_step _ _ _
      clear k1 b0 c0 eX hX hp hv hg hnm hmb hbase hK HM
      generalize gvR1 (fR (mkS 987)) z32.toList i = R0 at *
      go_wp2_with (with_reducible refine wpList_store_rw ?_ 24 (.tmp 22) (.tmp 21) ?_ w.heap.size 32 m i R0 (feL X) 24 ?_ ?_ q0 HO.out HI.out (feL_ok X).1 (feL_ok X).2 feInfo ?_
                   · rfl
                   · rfl
                   · rfl
                   · rfl
                   intro w2 b2 c2
                   rw [HF.out] at b2)
      exact ⟨⟨i + 1, HI.out, by go_num, b2, c1.new c2 (Nat.le_refl _)⟩, HJ.out⟩
    · have h9 : i = m := by omega
      subst h9
      have hI : ¬ (i : Int) < (i : Int) := by omega
      go_wp2_with fail
      have B2 : Blk wr w.heap.size (rL 32 i (gvR (fR (mkS 987)) (fR f) 0)).toArray 24 := b0.to (congrArg List.toArray (rL_congr fun j hj => by unfold gvR1 gvR; rw [if_pos hj, if_neg (by omega)]))
      clear b0
      go_loopw [7] (fun t wr => ∃ k : Nat, k ≤ n ∧ t = .int .i64 (k : Int) ∧ Blk wr w.heap.size (rL 32 i (gvR (fR (mkS 987)) (fR f) k)).toArray 24 ∧ Chg w wr []) (fun t _ => ((n : Int) - intOf t).toNat)
      case atStart => exact ⟨0, by omega, rfl, B2, c0⟩
      case round =>
        clear B2 c0
        obtain ⟨k, hk, rfl, b0, c0⟩ := hrel
        by_cases h8 : k < n
        · have hI1 : (k : Int) < (n : Int) := by omega
          have hI2 : (k : Int) < (i : Int) := by omega
          have HK1 : Hid (k + 1 ≤ n) := by show k + 1 ≤ n; omega
          have e2 : IntKind.i64.wrap ((k : Int) + 1) = (k : Int) + 1 := by rw [IntKind.wrap_i64]; omega
          have HJ : Hid (((n : Int) - intOf (.int .i64 ((k : Int) + 1))).toNat < ((n : Int) - intOf (.int .i64 (k : Int))).toNat) := by show ((n : Int) - intOf (.int .i64 ((k : Int) + 1))).toNat < ((n : Int) - intOf (.int .i64 (k : Int))).toNat; simp [intOf]; omega
          obtain ⟨g, o, rfl, hgl, hr0⟩ := hp k h8
          have hr := rangeAt_chg hr0 hgl c0 (by simp)
          have HO : Hid (Rok 32 i (gvR (fR (mkS 987)) (fR f) k)) := gvR_ok mk_ok (fR_ok n f) k (by omega)
          have HKI : Hid (k < i) := by show k < i; omega
          obtain ⟨X, hX⟩ : ∃ X : Int, ((f k : Nat) : Int) = X := ⟨_, rfl⟩
          have eX : fR f k = feL X := by show feL _ = _; rw [hX]
          rw [eX] at hr
          have HF : Hid (upR (gvR (fR (mkS 987)) (fR f) k) k (feL X) = gvR (fR (mkS 987)) (fR f) (k + 1)) := by rw [← eX]; exact gvR_step _ _ _
          have HR : Hid _ := hr
          clear h8 hk hp hr0 hv hnm hmb eX hX hr hg hbase hK HM
          generalize gvR (fR (mkS 987)) (fR f) k = R0 at *
          go_wp2_with (first
            | (with_reducible refine load_fe ?_ (.tmp 33) ?_ g (o + k * 32) X ?_ ?_ ?_
               · rfl
               · rfl
               · rfl
               · exact HR.out)
            | (with_reducible refine wpList_store_rw ?_ 24 (.tmp 35) (.tmp 34) ?_ w.heap.size 32 i k R0 (feL X) 24 ?_ ?_ b0 HO.out HKI.out (feL_ok X).1 (feL_ok X).2 feInfo ?_
               · rfl
               · rfl
               · rfl
               · rfl
               intro w2 b2 c2
               rw [HF.out] at b2))
          exact ⟨⟨k + 1, HK1.out, by go_num, b2, c0.new c2 (Nat.le_refl _)⟩, HJ.out⟩
        · have h9 : k = n := by omega
          subst h9
          have hI1 : ¬ (k : Int) < (k : Int) := by omega
          obtain ⟨y, hy⟩ : ∃ y, w.heap.size = y := ⟨_, rfl⟩
          have HY : Hid (w.heap.size = y) := hy
          obtain ⟨RR, hRR⟩ : ∃ RR, gvR (fR (mkS 987)) (fR f) k = RR := ⟨_, rfl⟩
          have HRR : Hid (gvR (fR (mkS 987)) (fR f) k = RR) := hRR
          have HOK : Hid (Rok 32 i RR) := hRR ▸ gvR_ok mk_ok (fR_ok k f) k (Nat.le_refl _)
          have BO : Blk wr y (rL 32 i RR).toArray 24 := hRR ▸ hy ▸ b0
          have HCW : Hid (Chg w wr []) := c0
          have HG1 : Hid (Gv wr gb base G 8 42 60 24 32 Kn N F) := hg.chg c0
          have hg1 := HG1.out
          have ybs : base ≤ wr.heap.size := Nat.le_trans hbase c0.size
          obtain ⟨vs, us, l1, l2, hd, hj⟩ := hg1.lists
          have HJ : Hid (∀ j, j < Kn → ∃ o x, vs[j]? = some (.slice (some ⟨o, 0, none⟩) (N j) (N j)) ∧ us[j]? = some x ∧ N j ≤ 9223372036854775807 ∧ Blk wr o (rL 32 (N j) (F j)).toArray 24 ∧ OwnR wr base 24 32 x (N j) (F j)) := hj
          have HL1 : Hid (wr.ownsRow base 60 1 (G 8) Kn vs) := l1
          have HL2 : Hid (wr.ownsRow base 60 1 (G (8 + 1)) Kn us) := l2
          have g8 : ¬ gb ∈ ob (G 8) := fun hx => by obtain ⟨C, hC⟩ := ownsRow_blk l1 hx; exact hg1.gb.ne hC (by decide) rfl
          have g9 : ¬ gb ∈ ob (G (8 + 1)) := fun hx => by obtain ⟨C, hC⟩ := ownsRow_blk l2 hx; exact hg1.gb.ne hC (by decide) rfl
          have y8 : ¬ y ∈ ob (G 8) := fun hx => by obtain ⟨C, hC⟩ := ownsRow_blk l1 hx; exact BO.ne hC (by decide) rfl
          have y9 : ¬ y ∈ ob (G (8 + 1)) := fun hx => by obtain ⟨C, hC⟩ := ownsRow_blk l2 hx; exact BO.ne hC (by decide) rfl
          have yg : ¬ y = gb := BO.ne hg1.gb (by decide)
          have HCH : Hid (gch gb G 8 = gb :: (ob (G 8) ++ ob (G (8 + 1)))) := rfl
          have GB00 := hg1.gb
          obtain ⟨la0, hla0⟩ : ∃ v, G 8 = v := ⟨_, rfl⟩
          obtain ⟨lb0, hlb0⟩ : ∃ v, G (8 + 1) = v := ⟨_, rfl⟩
          rw [hla0] at g8 y8 l1 hd
          rw [hlb0] at g9 y9 l2 hd
          have cg0 : wr.cell? ⟨gb, 8, none⟩ = some la0 := by rw [GB00.cell, gvC_get _ _ (by decide), hla0]
          have HLA0 : Hid (G 8 = la0) := hla0
          have HLB0 : Hid (G (8 + 1) = lb0) := hlb0
          rw [hy]
          have HI0 : Hid (0 < i) := by show 0 < i; omega
          have HIM : Hid (i ≤ 4398046511104) := by show i ≤ 4398046511104; omega
          have hki : (k : Int) ≤ (i : Int) := by omega
          obtain ⟨inf, hinf, hz, hs1, hs2⟩ := listRowS
          have AL := Blk.new wr #[.slice (some ⟨y, 0, none⟩) i i] 60
          have HNW : Hid (∀ j u, ([.slice (some ⟨y, 0, none⟩) i i] : List Value)[j]? = some u → (wr.alloc (.cells #[.slice (some ⟨y, 0, none⟩) i i] 60)).cell? ((⟨wr.heap.size, 0, none⟩ : Addr).add j) = some u) := by
            intro j u hj
            refine add_cell ?_
            rw [Nat.zero_add, AL.cell]
            simpa using hj
          have HLA : Hid ((wr.alloc (.cells #[.slice (some ⟨y, 0, none⟩) i i] 60)).ownsRow base 60 1 la0 Kn vs) := l1.alloc _
          have H63 : Hid (Kn + 1 ≤ maxLen) := by show Kn + 1 ≤ maxLen; simp only [maxLen]; omega
          have HBY : Hid ((Kn + 1) * 24 ≤ 140737488355328) := by show (Kn + 1) * 24 ≤ 140737488355328; omega
          have HBA : Hid (base ≤ (wr.alloc (.cells #[.slice (some ⟨y, 0, none⟩) i i] 60)).heap.size) := by show base ≤ _; simp; omega
          have HON : Hid (∀ u ∈ ([.slice (some ⟨y, 0, none⟩) i i] : List Value), u.oneCell' = true) := by show ∀ u ∈ ([.slice (some ⟨y, 0, none⟩) i i] : List Value), u.oneCell' = true; simp [Value.oneCell']
          have GA := GB00.alloc (.cells #[.slice (some ⟨y, 0, none⟩) i i] 60)
          have BA := BO.alloc (.cells #[.slice (some ⟨y, 0, none⟩) i i] 60)
          have LB1 := l2.alloc (.cells #[.slice (some ⟨y, 0, none⟩) i i] 60)
          have HD0 : Hid (∀ x, x ∈ ob la0 → ¬ x ∈ ob lb0) := hd
          have HLT : Hid (∀ x, x ∈ ob lb0 → x < wr.heap.size) := fun x hx => by obtain ⟨C, hC⟩ := ownsRow_blk l2 hx; exact hC.lt
          have CA := (Chg.refl wr (gch gb G 8)).alloc (.cells #[.slice (some ⟨y, 0, none⟩) i i] 60)
          have HIN : Hid (∀ x, x ∈ ob la0 → x ∈ gch gb G 8) := fun x hx => by rw [HCH.out, hla0]; simp [hx]
          have HIN9 : Hid (∀ x, x ∈ gb :: ob lb0 → x ∈ gch gb G 8) := fun x hx => by rw [HCH.out, hlb0]; simp only [List.mem_cons, List.mem_append] at hx ⊢; rcases hx with h | h <;> simp [h]
          have HGI : Hid (gb ∈ gch gb G 8) := List.mem_cons_self
          have wasz : (wr.alloc (.cells #[.slice (some ⟨y, 0, none⟩) i i] 60)).heap.size = wr.heap.size + 1 := by simp
          clear hy hRR b0 hv hp hg hj hd AL l1 l2 BO hg1 GB00 c0 hla0 hlb0 hnm hmb hk h8 hK
          go_wp2_with (with_reducible refine wpList_append_lies _ ?_ (.tmp 40) (.tmp 42) 30 ?_ base 60 inf (.slice none 0 0) 1 24 Try.underlying30 hinf hz hs1 hs2 ?_ ?_ la0 Kn vs ?_ HLA.out ⟨wr.heap.size, 0, none⟩ 1 1 [.slice (some ⟨y, 0, none⟩) i i] ?_ ?_ HNW.out HON.out ?_ H63.out HBY.out HBA.out (wr.heap.size + 1) ?_ ?_
                       · rfl
                       · rfl
                       · rfl
                       · decide
                       · rfl
                       · rfl
                       · rfl
                       · decide
                       · exact wasz
                       intro lg lc w1 O1 G1 hat hlt
                       replace G1 := Chg.grown G1
                       have GB0 := GA.chg G1 g8
                       have cgb : w1.cell? ⟨gb, 8, none⟩ = some la0 := by rw [GB0.cell, gvC_get _ _ (by decide)]; exact congrArg some HLA0.out
                       have fgb := GB0.frozen 8)
          have lgg : ¬ lg = gb := by obtain ⟨C, hC⟩ := ownsRow_blk O1 (k := lg) (by rw [ob_slice]; simp); exact hC.ne GB0 (by decide)
          have DJ : ¬ lg ∈ ob lb0 := by
            rcases hat with h | h
            · exact HD0.out lg (by simp [ob, h])
            · intro hx
              have := HLT.out lg hx
              omega
          have GB := (GB0.setCell 8 (.slice (some ⟨lg, 0, none⟩) (Kn + 1) lc)).to (gvC_set _ _ _)
          have BO1 := (BA.chg G1 y8).setOther yg 8 (.slice (some ⟨lg, 0, none⟩) (Kn + 1) lc)
          have SV := (Chg.refl w1 [gb]).setIn (k := gb) (by simp) 8 (.slice (some ⟨lg, 0, none⟩) (Kn + 1) lc)
          have LA1 := ownsRow_chg O1 SV (by rw [ob_slice]; simpa using lgg)
          have LB2 := ownsRow_chg (ownsRow_chg LB1 G1 (fun x hx hx' => HD0.out x hx' hx)) SV (fun x hx he => g9 (by simp at he; exact he ▸ hx))
          have CV := (CA.trans G1 (fun x hx => Or.inl (HIN.out x hx))).setIn HGI.out 8 (.slice (some ⟨lg, 0, none⟩) (Kn + 1) lc)
          have bV : base ≤ (w1.setCell ⟨gb, 8, none⟩ (.slice (some ⟨lg, 0, none⟩) (Kn + 1) lc)).heap.size := Nat.le_trans ybs CV.size
          clear SV cgb fgb GB0 O1 G1 GA BA LB1 CA HLA HNW HON HBA wasz cg0 hat hlt HD0 HLT HIN
          generalize w1.setCell ⟨gb, 8, none⟩ (.slice (some ⟨lg, 0, none⟩) (Kn + 1) lc) = V at *
          have HBV : Hid (base ≤ V.heap.size) := bV
          refine wp_region_held_drew (S := fun w' => Chg V w' (gb :: ob lb0)) (by kernel_rfl) ((Chg.refl V _).drew) (fun hHeld => ?_)
          replace GB := GB.drew
          replace BO1 := BO1.drew
          replace LA1 := ownsRow_chg LA1 ((Chg.refl V []).drew) (by simp)
          replace LB2 := ownsRow_chg LB2 ((Chg.refl V []).drew) (by simp)
          refine take_val (v := ?_) 0 (some 46) rfl (by kernel_rfl) (by kernel_rfl) (by kernel_rfl) (fun _ _ _ h => h) rfl rfl (fun w hSw => ?_) hHeld ?_
          rotate_left
          · (go_simp; try with_reducible rfl)
          try simp only [Act.put, List.setIfInBounds_toArray, List.set_cons_zero, List.set_cons_succ]
          refine take_val (v := ?_) 1 (some 47) rfl (by kernel_rfl) (by kernel_rfl) (by kernel_rfl) (fun _ _ _ h => h) rfl rfl (fun w hSw => ?_) hHeld ?_
          rotate_left
          · (go_simp; try with_reducible rfl)
          try simp only [Act.put, List.setIfInBounds_toArray, List.set_cons_zero, List.set_cons_succ]
          refine take_val (v := ?_) 2 (some 48) rfl (by kernel_rfl) (by kernel_rfl) (by kernel_rfl) (fun _ _ _ h => h) rfl rfl (fun w hSw => ?_) hHeld ?_
          rotate_left
          · (go_simp; try with_reducible rfl)
          try simp only [Act.put, List.setIfInBounds_toArray, List.set_cons_zero, List.set_cons_succ]
          refine take_val (v := ?_) 3 (some 49) rfl (by kernel_rfl) (by kernel_rfl) (by kernel_rfl) (fun _ _ _ h => h) rfl rfl (fun w hSw => ?_) hHeld ?_
          rotate_left
          · (go_simp; try with_reducible rfl)
          try simp only [Act.put, List.setIfInBounds_toArray, List.set_cons_zero, List.set_cons_succ]
          refine take_val (v := ?_) 5 (some 51) rfl (by kernel_rfl) (by kernel_rfl) (by kernel_rfl) (fun _ _ _ h => h) rfl rfl (fun w hSw => ?_) hHeld ?_
          rotate_left
          · (go_simp; try with_reducible rfl)
          try simp only [Act.put, List.setIfInBounds_toArray, List.set_cons_zero, List.set_cons_succ]
          refine wpAnyH_ready (rs := [4, 6]) (by kernel_rfl) (by simp) ?_
          refine AllReadyH.cons (o := _) rfl (fun K hK => ?_) ?_
          ·
            have cg := GB.cell 9
            rw [gvC_get _ _ (by decide), upV_other _ _ _ _ (by decide), show G 9 = lb0 from HLB0.out] at cg
            rw [if_pos (by rfl)]
            go_simp
            refine hK.out _ _ (hHeld) (fun hHeld => ?_)
            clear hK K
            try simp only [Act.put, List.setIfInBounds_toArray, List.set_cons_zero, List.set_cons_succ]
            refine wpAnyH_ready (rs := [6]) (by kernel_rfl) (by simp) ?_
            refine AllReadyH.cons (o := _) rfl (fun K hK => ?_) ?_
            ·
              go_simp
              refine (CopyScalars_s (.slice (some ⟨y, 0, none⟩) i i) i RR _ HI0.out HIM.out ⟨HOK.out, Or.inr ⟨y, 0, i, rfl, Nat.le_refl _, by have := HIM.out; omega, BO1.lt, fun j hj => by rw [Nat.zero_add]; exact BO1.rangeRw HOK.out hj⟩⟩).mono ?_
              rintro e v7 ⟨xg, xc, rfl, OX, k7⟩
              go_wp2_with fail
              refine hK.out _ _ (hHeld.trans1 k7.wide) (fun hHeld => ?_)
              clear hK K
              try simp only [Act.put, List.setIfInBounds_toArray, List.set_cons_zero, List.set_cons_succ]
              replace GB := GB.chg k7 (by simp)
              replace BO1 := BO1.chg k7 (by simp)
              replace LA1 := ownsRow_chg LA1 k7 (by simp)
              replace LB2 := ownsRow_chg LB2 k7 (by simp)
              have bv7 : base ≤ v7.heap.size := Nat.le_trans HBV.out k7.size
              have lglt : lg < v7.heap.size := by obtain ⟨C, hC⟩ := ownsRow_blk LA1 (k := lg) (by rw [ob_slice]; simp); exact hC.lt
              have xg9 : ¬ xg ∈ ob lb0 := fun hx => by obtain ⟨C, hC⟩ := ownsRow_blk LB2 hx; obtain ⟨D, hD⟩ := ownR_blk OX (k := xg) (by rw [ob_slice]; simp); exact hD.ne hC (by decide) rfl
              have xgg : ¬ xg = gb := by obtain ⟨D, hD⟩ := ownR_blk OX (k := xg) (by rw [ob_slice]; simp); exact hD.ne GB (by decide)
              clear k7
              refine wpAnyH_ready (rs := [7]) (by kernel_rfl) (by simp) ?_
              refine AllReadyH.cons (o := _) rfl (fun K hK => ?_) ?_
              ·
                rw [if_pos (by rfl)]
                go_simp
                refine hK.out _ _ (hHeld.alloc _) (fun hHeld => ?_)
                clear hK K
                try simp only [Act.put, List.setIfInBounds_toArray, List.set_cons_zero, List.set_cons_succ]
                have AL := Blk.new v7 #[.slice (some ⟨xg, 0, none⟩) i xc] 60
                replace GB := GB.alloc (.cells #[.slice (some ⟨xg, 0, none⟩) i xc] 60)
                replace BO1 := BO1.alloc (.cells #[.slice (some ⟨xg, 0, none⟩) i xc] 60)
                replace LA1 := LA1.alloc (.cells #[.slice (some ⟨xg, 0, none⟩) i xc] 60)
                replace LB2 := LB2.alloc (.cells #[.slice (some ⟨xg, 0, none⟩) i xc] 60)
                replace OX := OX.chg ((Chg.refl v7 []).alloc (.cells #[.slice (some ⟨xg, 0, none⟩) i xc] 60)) (by simp)
                refine wpAnyH_ready (rs := [8]) (by kernel_rfl) (by simp) ?_
                refine AllReadyH.cons (o := _) rfl (fun K hK => ?_) ?_
                ·
                  rw [if_pos (by rfl)]
                  refine wp_append_lies _ (.tmp 50) (.tmp 53) 30 rfl base 60 inf (.slice none 0 0) 1 24 Try.underlying30 hinf hz hs1 hs2 rfl (by decide) lb0 Kn us rfl LB2 ⟨v7.heap.size, 0, none⟩ 1 1 [.slice (some ⟨xg, 0, none⟩) i xc] rfl rfl (fun j u hj => add_cell (by rw [Nat.zero_add, AL.cell]; simpa using hj)) (by simp [Value.oneCell']) (by decide) H63.out HBY.out (by simp; omega) (v7.heap.size + 1) (by simp) ?_
                  intro mg mc w8 O8 G8 hat8 hlt8
                  replace G8 := Chg.grown G8
                  have DJ2 : ¬ lg = mg := by
                    rcases hat8 with h | h
                    · intro e; exact DJ (by simp [ob, h, e])
                    · omega
                  refine hK.out _ _ (hHeld.trans1 (G8.incl (fun x hx => List.mem_cons_of_mem _ hx))) (fun hHeld => ?_)
                  clear hK K
                  try simp only [Act.put, List.setIfInBounds_toArray, List.set_cons_zero, List.set_cons_succ]
                  replace GB := GB.chg G8 g9
                  replace BO1 := BO1.chg G8 y9
                  replace LA1 := ownsRow_chg LA1 G8 (by rw [ob_slice]; simpa using DJ)
                  replace OX := OX.chg G8 (by rw [ob_slice]; simpa using xg9)
                  have mgg : ¬ mg = gb := by obtain ⟨C, hC⟩ := ownsRow_blk O8 (k := mg) (by rw [ob_slice]; simp); exact hC.ne GB (by decide)
                  clear G8 AL hat8 hlt8 LB2
                  refine take_val (v := ?_) 9 (some 55) rfl (by kernel_rfl) (by kernel_rfl) (by kernel_rfl) (fun _ _ _ h => h) rfl rfl (fun w hSw => ?_) hHeld ?_
                  rotate_left
                  · (go_simp; try with_reducible rfl)
                  try simp only [Act.put, List.setIfInBounds_toArray, List.set_cons_zero, List.set_cons_succ]
                  refine take_val (v := ?_) 10 (some 56) rfl (by kernel_rfl) (by kernel_rfl) (by kernel_rfl) (fun _ _ _ h => h) rfl rfl (fun w hSw => ?_) hHeld ?_
                  rotate_left
                  · (go_simp; try with_reducible rfl)
                  try simp only [Act.put, List.setIfInBounds_toArray, List.set_cons_zero, List.set_cons_succ]
                  refine wpAnyH_ready (rs := [11]) (by kernel_rfl) (by simp) ?_
                  refine AllReadyH.cons (o := _) rfl (fun K hK => ?_) ?_
                  ·
                    have cg := GB.cell 9
                    rw [gvC_get _ _ (by decide), upV_other _ _ _ _ (by decide), show G 9 = lb0 from HLB0.out] at cg
                    have fg := GB.frozen 9
                    rw [if_pos (by rfl)]
                    go_simp
                    refine hK.out _ _ (hHeld.setIn (by simp) _ _) (fun hHeld => ?_)
                    clear hK K
                    try simp only [Act.put, List.setIfInBounds_toArray, List.set_cons_zero, List.set_cons_succ]
                    refine wpAnyH_done (by kernel_rfl) ?_ _
                    have GB2 := (GB.setCell 9 (.slice (some ⟨mg, 0, none⟩) (Kn + 1) mc)).to (gvC_set _ _ _)
                    have SC := (Chg.refl w8 [gb]).setIn (k := gb) (by simp) 9 (.slice (some ⟨mg, 0, none⟩) (Kn + 1) mc)
                    have BO2 := BO1.chg SC (by simpa using yg)
                    have LA2 := ownsRow_chg LA1 SC (by rw [ob_slice]; simpa using lgg)
                    have LB3 := ownsRow_chg O8 SC (by rw [ob_slice]; simpa using mgg)
                    have OX2 := OX.chg SC (by rw [ob_slice]; simpa using xgg)
                    have C9 := CV.trans hHeld (fun x hx => Or.inl (HIN9.out x hx))
                    clear hHeld SC
                    go_wp2_with fail
                    go_ret
                    refine ⟨_, rfl, y, .slice (some ⟨lg, 0, none⟩) (Kn + 1) lc, .slice (some ⟨mg, 0, none⟩) (Kn + 1) mc, rfl, by rw [show w.heap.size = y from HY.out]; exact Nat.le_refl _, (HCW.out.wide).trans1 C9, by rw [show gvR (fR (mkS 987)) (fR f) k = RR from HRR.out]; exact BO2, ?_⟩
                    rw [show gvR (fR (mkS 987)) (fR f) k = RR from HRR.out]
                    exact Gv.more HG1.out (by decide) (by decide) C9 HL1.out HL2.out HJ.out GB2 LA2 LB3 (by rw [ob_slice, ob_slice]; intro x hx hx'; simp at hx hx'; exact DJ2 (hx.symm.trans hx')) (by have := HIM.out; omega) BO2 ⟨ownsRow_base OX2.1 HBV.out, OX2.2⟩
                  exact AllReadyH.nil
                exact AllReadyH.nil
              exact AllReadyH.nil
            exact AllReadyH.nil
          refine AllReadyH.cons (o := _) rfl (fun K hK => ?_) ?_
          ·
            go_simp
            refine (CopyScalars_s (.slice (some ⟨y, 0, none⟩) i i) i RR _ HI0.out HIM.out ⟨HOK.out, Or.inr ⟨y, 0, i, rfl, Nat.le_refl _, by have := HIM.out; omega, BO1.lt, fun j hj => by rw [Nat.zero_add]; exact BO1.rangeRw HOK.out hj⟩⟩).mono ?_
            rintro e v7 ⟨xg, xc, rfl, OX, k7⟩
            go_wp2_with fail
            refine hK.out _ _ (hHeld.trans1 k7.wide) (fun hHeld => ?_)
            clear hK K
            try simp only [Act.put, List.setIfInBounds_toArray, List.set_cons_zero, List.set_cons_succ]
            replace GB := GB.chg k7 (by simp)
            replace BO1 := BO1.chg k7 (by simp)
            replace LA1 := ownsRow_chg LA1 k7 (by simp)
            replace LB2 := ownsRow_chg LB2 k7 (by simp)
            have bv7 : base ≤ v7.heap.size := Nat.le_trans HBV.out k7.size
            have lglt : lg < v7.heap.size := by obtain ⟨C, hC⟩ := ownsRow_blk LA1 (k := lg) (by rw [ob_slice]; simp); exact hC.lt
            have xg9 : ¬ xg ∈ ob lb0 := fun hx => by obtain ⟨C, hC⟩ := ownsRow_blk LB2 hx; obtain ⟨D, hD⟩ := ownR_blk OX (k := xg) (by rw [ob_slice]; simp); exact hD.ne hC (by decide) rfl
            have xgg : ¬ xg = gb := by obtain ⟨D, hD⟩ := ownR_blk OX (k := xg) (by rw [ob_slice]; simp); exact hD.ne GB (by decide)
            clear k7
            refine wpAnyH_ready (rs := [4, 7]) (by kernel_rfl) (by simp) ?_
            refine AllReadyH.cons (o := _) rfl (fun K hK => ?_) ?_
            ·
              have cg := GB.cell 9
              rw [gvC_get _ _ (by decide), upV_other _ _ _ _ (by decide), show G 9 = lb0 from HLB0.out] at cg
              rw [if_pos (by rfl)]
              go_simp
              refine hK.out _ _ (hHeld) (fun hHeld => ?_)
              clear hK K
              try simp only [Act.put, List.setIfInBounds_toArray, List.set_cons_zero, List.set_cons_succ]
              refine wpAnyH_ready (rs := [7]) (by kernel_rfl) (by simp) ?_
              refine AllReadyH.cons (o := _) rfl (fun K hK => ?_) ?_
              ·
                rw [if_pos (by rfl)]
                go_simp
                refine hK.out _ _ (hHeld.alloc _) (fun hHeld => ?_)
                clear hK K
                try simp only [Act.put, List.setIfInBounds_toArray, List.set_cons_zero, List.set_cons_succ]
                have AL := Blk.new v7 #[.slice (some ⟨xg, 0, none⟩) i xc] 60
                replace GB := GB.alloc (.cells #[.slice (some ⟨xg, 0, none⟩) i xc] 60)
                replace BO1 := BO1.alloc (.cells #[.slice (some ⟨xg, 0, none⟩) i xc] 60)
                replace LA1 := LA1.alloc (.cells #[.slice (some ⟨xg, 0, none⟩) i xc] 60)
                replace LB2 := LB2.alloc (.cells #[.slice (some ⟨xg, 0, none⟩) i xc] 60)
                replace OX := OX.chg ((Chg.refl v7 []).alloc (.cells #[.slice (some ⟨xg, 0, none⟩) i xc] 60)) (by simp)
                refine wpAnyH_ready (rs := [8]) (by kernel_rfl) (by simp) ?_
                refine AllReadyH.cons (o := _) rfl (fun K hK => ?_) ?_
                ·
                  rw [if_pos (by rfl)]
                  refine wp_append_lies _ (.tmp 50) (.tmp 53) 30 rfl base 60 inf (.slice none 0 0) 1 24 Try.underlying30 hinf hz hs1 hs2 rfl (by decide) lb0 Kn us rfl LB2 ⟨v7.heap.size, 0, none⟩ 1 1 [.slice (some ⟨xg, 0, none⟩) i xc] rfl rfl (fun j u hj => add_cell (by rw [Nat.zero_add, AL.cell]; simpa using hj)) (by simp [Value.oneCell']) (by decide) H63.out HBY.out (by simp; omega) (v7.heap.size + 1) (by simp) ?_
                  intro mg mc w8 O8 G8 hat8 hlt8
                  replace G8 := Chg.grown G8
                  have DJ2 : ¬ lg = mg := by
                    rcases hat8 with h | h
                    · intro e; exact DJ (by simp [ob, h, e])
                    · omega
                  refine hK.out _ _ (hHeld.trans1 (G8.incl (fun x hx => List.mem_cons_of_mem _ hx))) (fun hHeld => ?_)
                  clear hK K
                  try simp only [Act.put, List.setIfInBounds_toArray, List.set_cons_zero, List.set_cons_succ]
                  replace GB := GB.chg G8 g9
                  replace BO1 := BO1.chg G8 y9
                  replace LA1 := ownsRow_chg LA1 G8 (by rw [ob_slice]; simpa using DJ)
                  replace OX := OX.chg G8 (by rw [ob_slice]; simpa using xg9)
                  have mgg : ¬ mg = gb := by obtain ⟨C, hC⟩ := ownsRow_blk O8 (k := mg) (by rw [ob_slice]; simp); exact hC.ne GB (by decide)
                  clear G8 AL hat8 hlt8 LB2
                  refine take_val (v := ?_) 9 (some 55) rfl (by kernel_rfl) (by kernel_rfl) (by kernel_rfl) (fun _ _ _ h => h) rfl rfl (fun w hSw => ?_) hHeld ?_
                  rotate_left
                  · (go_simp; try with_reducible rfl)
                  try simp only [Act.put, List.setIfInBounds_toArray, List.set_cons_zero, List.set_cons_succ]
                  refine take_val (v := ?_) 10 (some 56) rfl (by kernel_rfl) (by kernel_rfl) (by kernel_rfl) (fun _ _ _ h => h) rfl rfl (fun w hSw => ?_) hHeld ?_
                  rotate_left
                  · (go_simp; try with_reducible rfl)
                  try simp only [Act.put, List.setIfInBounds_toArray, List.set_cons_zero, List.set_cons_succ]
                  refine wpAnyH_ready (rs := [11]) (by kernel_rfl) (by simp) ?_
                  refine AllReadyH.cons (o := _) rfl (fun K hK => ?_) ?_
                  ·
                    have cg := GB.cell 9
                    rw [gvC_get _ _ (by decide), upV_other _ _ _ _ (by decide), show G 9 = lb0 from HLB0.out] at cg
                    have fg := GB.frozen 9
                    rw [if_pos (by rfl)]
                    go_simp
                    refine hK.out _ _ (hHeld.setIn (by simp) _ _) (fun hHeld => ?_)
                    clear hK K
                    try simp only [Act.put, List.setIfInBounds_toArray, List.set_cons_zero, List.set_cons_succ]
                    refine wpAnyH_done (by kernel_rfl) ?_ _
                    have GB2 := (GB.setCell 9 (.slice (some ⟨mg, 0, none⟩) (Kn + 1) mc)).to (gvC_set _ _ _)
                    have SC := (Chg.refl w8 [gb]).setIn (k := gb) (by simp) 9 (.slice (some ⟨mg, 0, none⟩) (Kn + 1) mc)
                    have BO2 := BO1.chg SC (by simpa using yg)
                    have LA2 := ownsRow_chg LA1 SC (by rw [ob_slice]; simpa using lgg)
                    have LB3 := ownsRow_chg O8 SC (by rw [ob_slice]; simpa using mgg)
                    have OX2 := OX.chg SC (by rw [ob_slice]; simpa using xgg)
                    have C9 := CV.trans hHeld (fun x hx => Or.inl (HIN9.out x hx))
                    clear hHeld SC
                    go_wp2_with fail
                    go_ret
                    refine ⟨_, rfl, y, .slice (some ⟨lg, 0, none⟩) (Kn + 1) lc, .slice (some ⟨mg, 0, none⟩) (Kn + 1) mc, rfl, by rw [show w.heap.size = y from HY.out]; exact Nat.le_refl _, (HCW.out.wide).trans1 C9, by rw [show gvR (fR (mkS 987)) (fR f) k = RR from HRR.out]; exact BO2, ?_⟩
                    rw [show gvR (fR (mkS 987)) (fR f) k = RR from HRR.out]
                    exact Gv.more HG1.out (by decide) (by decide) C9 HL1.out HL2.out HJ.out GB2 LA2 LB3 (by rw [ob_slice, ob_slice]; intro x hx hx'; simp at hx hx'; exact DJ2 (hx.symm.trans hx')) (by have := HIM.out; omega) BO2 ⟨ownsRow_base OX2.1 HBV.out, OX2.2⟩
                  exact AllReadyH.nil
                exact AllReadyH.nil
              exact AllReadyH.nil
            refine AllReadyH.cons (o := _) rfl (fun K hK => ?_) ?_
            ·
              rw [if_pos (by rfl)]
              go_simp
              refine hK.out _ _ (hHeld.alloc _) (fun hHeld => ?_)
              clear hK K
              try simp only [Act.put, List.setIfInBounds_toArray, List.set_cons_zero, List.set_cons_succ]
              have AL := Blk.new v7 #[.slice (some ⟨xg, 0, none⟩) i xc] 60
              replace GB := GB.alloc (.cells #[.slice (some ⟨xg, 0, none⟩) i xc] 60)
              replace BO1 := BO1.alloc (.cells #[.slice (some ⟨xg, 0, none⟩) i xc] 60)
              replace LA1 := LA1.alloc (.cells #[.slice (some ⟨xg, 0, none⟩) i xc] 60)
              replace LB2 := LB2.alloc (.cells #[.slice (some ⟨xg, 0, none⟩) i xc] 60)
              replace OX := OX.chg ((Chg.refl v7 []).alloc (.cells #[.slice (some ⟨xg, 0, none⟩) i xc] 60)) (by simp)
              refine wpAnyH_ready (rs := [4]) (by kernel_rfl) (by simp) ?_
              refine AllReadyH.cons (o := _) rfl (fun K hK => ?_) ?_
              ·
                have cg := GB.cell 9
                rw [gvC_get _ _ (by decide), upV_other _ _ _ _ (by decide), show G 9 = lb0 from HLB0.out] at cg
                rw [if_pos (by rfl)]
                go_simp
                refine hK.out _ _ (hHeld) (fun hHeld => ?_)
                clear hK K
                try simp only [Act.put, List.setIfInBounds_toArray, List.set_cons_zero, List.set_cons_succ]
                refine wpAnyH_ready (rs := [8]) (by kernel_rfl) (by simp) ?_
                refine AllReadyH.cons (o := _) rfl (fun K hK => ?_) ?_
                ·
                  rw [if_pos (by rfl)]
                  refine wp_append_lies _ (.tmp 50) (.tmp 53) 30 rfl base 60 inf (.slice none 0 0) 1 24 Try.underlying30 hinf hz hs1 hs2 rfl (by decide) lb0 Kn us rfl LB2 ⟨v7.heap.size, 0, none⟩ 1 1 [.slice (some ⟨xg, 0, none⟩) i xc] rfl rfl (fun j u hj => add_cell (by rw [Nat.zero_add, AL.cell]; simpa using hj)) (by simp [Value.oneCell']) (by decide) H63.out HBY.out (by simp; omega) (v7.heap.size + 1) (by simp) ?_
                  intro mg mc w8 O8 G8 hat8 hlt8
                  replace G8 := Chg.grown G8
                  have DJ2 : ¬ lg = mg := by
                    rcases hat8 with h | h
                    · intro e; exact DJ (by simp [ob, h, e])
                    · omega
                  refine hK.out _ _ (hHeld.trans1 (G8.incl (fun x hx => List.mem_cons_of_mem _ hx))) (fun hHeld => ?_)
                  clear hK K
                  try simp only [Act.put, List.setIfInBounds_toArray, List.set_cons_zero, List.set_cons_succ]
                  replace GB := GB.chg G8 g9
                  replace BO1 := BO1.chg G8 y9
                  replace LA1 := ownsRow_chg LA1 G8 (by rw [ob_slice]; simpa using DJ)
                  replace OX := OX.chg G8 (by rw [ob_slice]; simpa using xg9)
                  have mgg : ¬ mg = gb := by obtain ⟨C, hC⟩ := ownsRow_blk O8 (k := mg) (by rw [ob_slice]; simp); exact hC.ne GB (by decide)
                  clear G8 AL hat8 hlt8 LB2
                  refine take_val (v := ?_) 9 (some 55) rfl (by kernel_rfl) (by kernel_rfl) (by kernel_rfl) (fun _ _ _ h => h) rfl rfl (fun w hSw => ?_) hHeld ?_
                  rotate_left
                  · (go_simp; try with_reducible rfl)
                  try simp only [Act.put, List.setIfInBounds_toArray, List.set_cons_zero, List.set_cons_succ]
                  refine take_val (v := ?_) 10 (some 56) rfl (by kernel_rfl) (by kernel_rfl) (by kernel_rfl) (fun _ _ _ h => h) rfl rfl (fun w hSw => ?_) hHeld ?_
                  rotate_left
                  · (go_simp; try with_reducible rfl)
                  try simp only [Act.put, List.setIfInBounds_toArray, List.set_cons_zero, List.set_cons_succ]
                  refine wpAnyH_ready (rs := [11]) (by kernel_rfl) (by simp) ?_
                  refine AllReadyH.cons (o := _) rfl (fun K hK => ?_) ?_
                  ·
                    have cg := GB.cell 9
                    rw [gvC_get _ _ (by decide), upV_other _ _ _ _ (by decide), show G 9 = lb0 from HLB0.out] at cg
                    have fg := GB.frozen 9
                    rw [if_pos (by rfl)]
                    go_simp
                    refine hK.out _ _ (hHeld.setIn (by simp) _ _) (fun hHeld => ?_)
                    clear hK K
                    try simp only [Act.put, List.setIfInBounds_toArray, List.set_cons_zero, List.set_cons_succ]
                    refine wpAnyH_done (by kernel_rfl) ?_ _
                    have GB2 := (GB.setCell 9 (.slice (some ⟨mg, 0, none⟩) (Kn + 1) mc)).to (gvC_set _ _ _)
                    have SC := (Chg.refl w8 [gb]).setIn (k := gb) (by simp) 9 (.slice (some ⟨mg, 0, none⟩) (Kn + 1) mc)
                    have BO2 := BO1.chg SC (by simpa using yg)
                    have LA2 := ownsRow_chg LA1 SC (by rw [ob_slice]; simpa using lgg)
                    have LB3 := ownsRow_chg O8 SC (by rw [ob_slice]; simpa using mgg)
                    have OX2 := OX.chg SC (by rw [ob_slice]; simpa using xgg)
                    have C9 := CV.trans hHeld (fun x hx => Or.inl (HIN9.out x hx))
                    clear hHeld SC
                    go_wp2_with fail
                    go_ret
                    refine ⟨_, rfl, y, .slice (some ⟨lg, 0, none⟩) (Kn + 1) lc, .slice (some ⟨mg, 0, none⟩) (Kn + 1) mc, rfl, by rw [show w.heap.size = y from HY.out]; exact Nat.le_refl _, (HCW.out.wide).trans1 C9, by rw [show gvR (fR (mkS 987)) (fR f) k = RR from HRR.out]; exact BO2, ?_⟩
                    rw [show gvR (fR (mkS 987)) (fR f) k = RR from HRR.out]
                    exact Gv.more HG1.out (by decide) (by decide) C9 HL1.out HL2.out HJ.out GB2 LA2 LB3 (by rw [ob_slice, ob_slice]; intro x hx hx'; simp at hx hx'; exact DJ2 (hx.symm.trans hx')) (by have := HIM.out; omega) BO2 ⟨ownsRow_base OX2.1 HBV.out, OX2.2⟩
                  exact AllReadyH.nil
                exact AllReadyH.nil
              exact AllReadyH.nil
            exact AllReadyH.nil
          exact AllReadyH.nil
end Go.Proofs.Ytcdgkhejbdlapaa
