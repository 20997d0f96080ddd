/- (*Given).Bytes, on a Given that has copies of bytes already. -/
import Derived.Test.YtachilkhbfpahaaGivB
import Derived.Test.YtachilkhbfpahaaMgH
set_option linter.unusedVariables false
set_option linter.unusedSimpArgs false
set_option linter.unnecessarySimpa false
namespace Go.Proofs.Ytachilkhbfpahaa
open Go.RowKit

/-- Bytes as rows of one cell. -/
def bR (g : Nat → Nat) : Nat → List Value := fun j => [.int .u8 ((g j : Nat) : Int)]
theorem bR_ok (m : Nat) (g : Nat → Nat) : Rok 1 m (bR g) := fun j _ => ⟨rfl, by intro v hv; simp [bR] at hv; subst hv; rfl⟩
theorem rL_bR (m : Nat) (g : Nat → Nat) : rL 1 m (bR g) = yL m g := by
  apply List.ext_getElem?
  intro k
  by_cases h : k < m
  · have e := rL_get (bR_ok m g) h (show 0 < 1 by decide)
    rw [Nat.mul_one, Nat.add_zero] at e
    rw [e, yL_get m g k h]
    rfl
  · rw [List.getElem?_eq_none (by rw [rL_len]; omega), List.getElem?_eq_none (by rw [yL_len]; omega)]
theorem yC_bR (m : Nat) (g : Nat → Nat) : yC m g = (rL 1 m (bR g)).toArray := by
  rw [rL_bR]
  apply Array.ext_getElem?
  intro k
  by_cases h : k < m
  · rw [yC_get m g k h, List.getElem?_toArray, yL_get m g k h]
  · rw [Array.getElem?_eq_none (by rw [yC_size]; omega), List.getElem?_toArray, List.getElem?_eq_none (by rw [yL_len]; omega)]
theorem Own.ownR {w : World} {base : Nat} {v : Value} {n : Nat} {f : Nat → Nat} (h : Own w base v n f) : OwnR w base 5 1 v n (bR f) := ⟨by rw [rL_bR]; exact h.1, bR_ok n f⟩
theorem CopyBytes_k (y n : Nat) (f : Nat → Nat) (w : World) (h0 : 0 < n) (hn : n ≤ 211106232532992) (hf : ∀ j, j < n → f j < 256) (hb : Blk w y (rL 1 n (bR f)).toArray 5) :
    Calls Try.prog 31 #[.slice (some ⟨y, 0, none⟩) n n] w fun e w' => ∃ g cap, e = .returned (.slice (some ⟨g, 0, none⟩) n cap) ∧ OwnR w' w.heap.size 5 1 (.slice (some ⟨g, 0, none⟩) n cap) n (bR f) ∧ Chg w w' [] := by
  rw [← yC_bR] at hb
  refine (CopyBytes_s _ n f w hn (Or.inr ⟨y, 0, n, rfl, Nat.le_refl _, by omega, hb.lt, hf, fun j hj => by rw [Nat.zero_add, hb.cell, yC_get _ _ _ hj]⟩)).mono ?_
  rintro e w' ⟨v', rfl, o, c⟩
  obtain ⟨g, cap, rfl, _⟩ := o.form h0
  exact ⟨g, cap, rfl, o.ownR, c⟩
/-- What Bytes answers and leaves. -/
def GvQ (w w' : World) (gb base n m : Nat) (f : Nat → Nat) (G : Nat → Value) (Kn : Nat) (N : Nat → Nat) (F : Nat → Nat → List Value) (r : Value) : Prop :=
  ∃ o la lb, r = .slice (some ⟨o, 0, none⟩) n m ∧ w.heap.size ≤ o ∧ Chg w w' (gch gb G 0) ∧ Blk w' o (rL 1 m (bR (gvf f n))).toArray 5 ∧
    Gv w' gb base (upV (upV G 0 la) (0 + 1) lb) 0 44 27 5 1 (Kn + 1) (fun j => if j = Kn then m else N j) (fun j => if j = Kn then bR (gvf f n) else F j)
set_option maxHeartbeats 8000000 in
set_option maxRecDepth 100000 in
theorem GivenBytes_k (gb n base Kn : Nat) (v : Value) (f : Nat → Nat) (G : Nat → Value) (N : Nat → Nat) (F : Nat → Nat → List Value) (w : World) (hn : n ≤ 140737488355328) (hK : Kn ≤ 1000000) (hbase : base ≤ w.heap.size) (hv : Sl w v n f)
    (hg : Gv w gb base G 0 44 27 5 1 Kn N F) :
    Calls Try.prog 9 #[.pointer (some ⟨gb, 0, none⟩), v] w fun e w' => ∃ r, e = .returned r ∧ GvQ w w' gb base n (n + 3) f G Kn N F r := by
  have hlen : ∃ p c, v = .slice p n c := by
    rcases hv with ⟨rfl, rfl⟩ | ⟨g, o, cap, rfl, _⟩
    · exact ⟨none, 0, rfl⟩
    · exact ⟨_, _, rfl⟩
  obtain ⟨vp, vc, rfl⟩ := hlen
  have hfl := sl_lt hv
  obtain ⟨m, hm⟩ : ∃ m, n + 3 = m := ⟨_, rfl⟩
  have HM : Hid (n + 3 = m) := hm
  have e1 : IntKind.i64.wrap ((n : Int) + 3) = (m : Int) := by rw [IntKind.wrap_i64]; omega
  have hmk := make_yi m (by omega)
  have B0 := Blk.new w (yC m fun _ => 0) 5
  have B1 : Blk (w.alloc (.cells (yC m fun _ => 0) 5)) w.heap.size (yC m (gv1 0)) 5 := B0.to (yC_eq fun j _ => (if_neg (by omega)).symm)
  have C1 := (Chg.refl w []).alloc (.cells (yC m fun _ => 0) 5)
  have hnm : n < m := by omega
  have hmb : m ≤ 140737488355331 := by omega
  rw [hm]
  clear hm B0 hn
  go_enter Try.func9, Try.ntmps9
  go_wp2_with fail
  clear hmk
  go_loopw [6] (fun t wr => ∃ i : Nat, i ≤ m ∧ t = .int .i64 (i : Int) ∧ Blk wr w.heap.size (yC m (gv1 i)) 5 ∧ Chg w wr []) (fun t _ => ((m : Int) - intOf t).toNat)
  case atStart => exact ⟨0, by omega, rfl, B1, C1⟩
  case round =>
    clear B1 C1
    obtain ⟨i, hi, rfl, b0, c0⟩ := hrel
    by_cases h8 : i < m
    · have hI : (i : Int) < (m : Int) := by omega
      have e2 : IntKind.i64.wrap ((i : Int) + 1) = (i : Int) + 1 := by rw [IntKind.wrap_i64]; omega
      have ck := (b0.cell i).trans (yC_get m _ i h8)
      have fk := b0.frozen i
      have b1 := (b0.setCell i (.int .u8 ((mkb i : Nat) : Int))).to (by rw [yC_set, gv1_step])
      have c1 := c0.setNew (Nat.le_refl _) i (.int .u8 ((mkb i : Nat) : Int))
      go_wp2_with fail
      refine (markBytes_s i (by omega) _).mono ?_
      rintro e v1 ⟨rfl, rfl⟩
      go_wp2_with fail
      exact ⟨⟨i + 1, by omega, by go_num, b1, c1⟩, by simp [intOf]; omega⟩
    · have h9 : i = m := by omega
      subst h9
      have hI : ¬ (i : Int) < (i : Int) := by omega
      go_wp2_with fail
      have B2 : Blk wr w.heap.size (yC i (gv2 f 0)) 5 := b0.to (yC_eq fun j hj => by unfold gv1 gv2; rw [if_pos hj, if_neg (by omega)])
      go_loopw [7] (fun t wr => ∃ k : Nat, k ≤ n ∧ t = .int .i64 (k : Int) ∧ Blk wr w.heap.size (yC i (gv2 f k)) 5 ∧ Chg w wr []) (fun t _ => ((n : Int) - intOf t).toNat)
      case atStart => exact ⟨0, by omega, rfl, B2, c0⟩
      case round =>
        clear B2 c0 b0
        obtain ⟨k, hk, rfl, b0, c0⟩ := hrel
        by_cases h8 : k < n
        · have hI1 : (k : Int) < (n : Int) := by omega
          have hI2 : (k : Int) < (i : Int) := by omega
          have e2 : IntKind.i64.wrap ((k : Int) + 1) = (k : Int) + 1 := by rw [IntKind.wrap_i64]; omega
          have ck := (b0.cell k).trans (yC_get i _ k (by omega))
          have fk := b0.frozen k
          have b1 := (b0.setCell k (.int .u8 ((f k : Nat) : Int))).to (by rw [yC_set, gv2_step])
          have c1 := c0.setNew (Nat.le_refl _) k (.int .u8 ((f k : Nat) : Int))
          have hvc := hv.chg c0 (Off.nil _)
          rcases hvc with ⟨h0, _⟩ | ⟨g, o, cap, he, _, _, hb⟩
          · omega
          · simp only [Value.slice.injEq] at he
            obtain ⟨rfl, _, rfl⟩ := he
            have cl := hb.cell k h8
            go_wp2_with fail
            exact ⟨⟨k + 1, by omega, by go_num, b1, c1⟩, by simp [intOf]; omega⟩
        · have h9 : k = n := by omega
          subst h9
          have hI1 : ¬ (k : Int) < (k : Int) := by omega
          obtain ⟨y, hy⟩ : ∃ y, w.heap.size = y := ⟨_, rfl⟩
          have HY : Hid (w.heap.size = y) := hy
          obtain ⟨RR, hRR⟩ : ∃ RR, bR (gvf f k) = RR := ⟨_, rfl⟩
          have HRR : Hid (bR (gvf f k) = RR) := hRR
          have HOK : Hid (Rok 1 i RR) := hRR ▸ bR_ok i (gvf f k)
          have BO : Blk wr y (rL 1 i RR).toArray 5 := hRR ▸ hy ▸ (b0.to (yC_bR i (gvf f k)))
          have HCW : Hid (Chg w wr []) := c0
          have HG1 : Hid (Gv wr gb base G 0 44 27 5 1 Kn N F) := hg.chg c0
          have hg1 := HG1.out
          have ybs : base ≤ wr.heap.size := Nat.le_trans hbase c0.size
          obtain ⟨vs, us, l1, l2, hd, hj⟩ := hg1.lists
          have HJ : Hid (∀ j, j < Kn → ∃ o x, vs[j]? = some (.slice (some ⟨o, 0, none⟩) (N j) (N j)) ∧ us[j]? = some x ∧ N j ≤ 9223372036854775807 ∧ Blk wr o (rL 1 (N j) (F j)).toArray 5 ∧ OwnR wr base 5 1 x (N j) (F j)) := hj
          have HL1 : Hid (wr.ownsRow base 27 1 (G 0) Kn vs) := l1
          have HL2 : Hid (wr.ownsRow base 27 1 (G (0 + 1)) Kn us) := l2
          have g8 : ¬ gb ∈ ob (G 0) := fun hx => by obtain ⟨C, hC⟩ := ownsRow_blk l1 hx; exact hg1.gb.ne hC (by decide) rfl
          have g9 : ¬ gb ∈ ob (G (0 + 1)) := fun hx => by obtain ⟨C, hC⟩ := ownsRow_blk l2 hx; exact hg1.gb.ne hC (by decide) rfl
          have y8 : ¬ y ∈ ob (G 0) := fun hx => by obtain ⟨C, hC⟩ := ownsRow_blk l1 hx; exact BO.ne hC (by decide) rfl
          have y9 : ¬ y ∈ ob (G (0 + 1)) := fun hx => by obtain ⟨C, hC⟩ := ownsRow_blk l2 hx; exact BO.ne hC (by decide) rfl
          have yg : ¬ y = gb := BO.ne hg1.gb (by decide)
          have HCH : Hid (gch gb G 0 = gb :: (ob (G 0) ++ ob (G (0 + 1)))) := rfl
          have GB00 := hg1.gb
          obtain ⟨la0, hla0⟩ : ∃ v, G 0 = v := ⟨_, rfl⟩
          obtain ⟨lb0, hlb0⟩ : ∃ v, G (0 + 1) = v := ⟨_, rfl⟩
          rw [hla0] at g8 y8 l1 hd
          rw [hlb0] at g9 y9 l2 hd
          have cg0 : wr.cell? ⟨gb, 0, none⟩ = some la0 := by rw [GB00.cell, gvC_get _ _ (by decide), hla0]
          have HLA0 : Hid (G 0 = la0) := hla0
          have HLB0 : Hid (G (0 + 1) = lb0) := hlb0
          rw [hy]
          have HI0 : Hid (0 < i) := by show 0 < i; omega
          have HIM : Hid (i ≤ 140737488355331) := by show i ≤ 140737488355331; omega
          have hki : (k : Int) ≤ (i : Int) := by omega
          obtain ⟨inf, hinf, hz, hs1, hs2⟩ := listRow
          have AL := Blk.new wr #[.slice (some ⟨y, 0, none⟩) i i] 27
          have HNW : Hid (∀ j u, ([.slice (some ⟨y, 0, none⟩) i i] : List Value)[j]? = some u → (wr.alloc (.cells #[.slice (some ⟨y, 0, none⟩) i i] 27)).cell? ((⟨wr.heap.size, 0, none⟩ : Addr).add j) = some u) := by
            intro j u hj
            refine add_cell ?_
            rw [Nat.zero_add, AL.cell]
            simpa using hj
          have HLA : Hid ((wr.alloc (.cells #[.slice (some ⟨y, 0, none⟩) i i] 27)).ownsRow base 27 1 la0 Kn vs) := l1.alloc _
          have H63 : Hid (Kn + 1 ≤ maxLen) := by show Kn + 1 ≤ maxLen; simp only [maxLen]; omega
          have HBY : Hid ((Kn + 1) * 24 ≤ 140737488355328) := by show (Kn + 1) * 24 ≤ 140737488355328; omega
          have HBA : Hid (base ≤ (wr.alloc (.cells #[.slice (some ⟨y, 0, none⟩) i i] 27)).heap.size) := by show base ≤ _; simp; omega
          have HON : Hid (∀ u ∈ ([.slice (some ⟨y, 0, none⟩) i i] : List Value), u.oneCell' = true) := by show ∀ u ∈ ([.slice (some ⟨y, 0, none⟩) i i] : List Value), u.oneCell' = true; simp [Value.oneCell']
          have GA := GB00.alloc (.cells #[.slice (some ⟨y, 0, none⟩) i i] 27)
          have BA := BO.alloc (.cells #[.slice (some ⟨y, 0, none⟩) i i] 27)
          have LB1 := l2.alloc (.cells #[.slice (some ⟨y, 0, none⟩) i i] 27)
          have HD0 : Hid (∀ x, x ∈ ob la0 → ¬ x ∈ ob lb0) := hd
          have HLT : Hid (∀ x, x ∈ ob lb0 → x < wr.heap.size) := fun x hx => by obtain ⟨C, hC⟩ := ownsRow_blk l2 hx; exact hC.lt
          have CA := (Chg.refl wr (gch gb G 0)).alloc (.cells #[.slice (some ⟨y, 0, none⟩) i i] 27)
          have HIN : Hid (∀ x, x ∈ ob la0 → x ∈ gch gb G 0) := fun x hx => by rw [HCH.out, hla0]; simp [hx]
          have HIN9 : Hid (∀ x, x ∈ gb :: ob lb0 → x ∈ gch gb G 0) := fun x hx => by rw [HCH.out, hlb0]; simp only [List.mem_cons, List.mem_append] at hx ⊢; rcases hx with h | h <;> simp [h]
          have HGI : Hid (gb ∈ gch gb G 0) := List.mem_cons_self
          have wasz : (wr.alloc (.cells #[.slice (some ⟨y, 0, none⟩) i i] 27)).heap.size = wr.heap.size + 1 := by simp
          clear hy hRR b0 hv hg hj hd AL l1 l2 BO hg1 GB00 c0 hla0 hlb0 hnm hmb hk h8 hK
          go_wp2_with (with_reducible refine wpList_append_lies _ ?_ (.tmp 40) (.tmp 42) 28 ?_ base 27 inf (.slice none 0 0) 1 24 Try.underlying28 hinf hz hs1 hs2 ?_ ?_ la0 Kn vs ?_ HLA.out ⟨wr.heap.size, 0, none⟩ 1 1 [.slice (some ⟨y, 0, none⟩) i i] ?_ ?_ HNW.out HON.out ?_ H63.out HBY.out HBA.out (wr.heap.size + 1) ?_ ?_
                       · rfl
                       · rfl
                       · rfl
                       · decide
                       · rfl
                       · rfl
                       · rfl
                       · decide
                       · exact wasz
                       intro lg lc w1 O1 G1 hat hlt
                       replace G1 := Chg.grown G1
                       have GB0 := GA.chg G1 g8
                       have cgb : w1.cell? ⟨gb, 0, none⟩ = some la0 := by rw [GB0.cell, gvC_get _ _ (by decide)]; exact congrArg some HLA0.out
                       have fgb := GB0.frozen 0)
          have lgg : ¬ lg = gb := by obtain ⟨C, hC⟩ := ownsRow_blk O1 (k := lg) (by rw [ob_slice]; simp); exact hC.ne GB0 (by decide)
          have DJ : ¬ lg ∈ ob lb0 := by
            rcases hat with h | h
            · exact HD0.out lg (by simp [ob, h])
            · intro hx
              have := HLT.out lg hx
              omega
          have GB := (GB0.setCell 0 (.slice (some ⟨lg, 0, none⟩) (Kn + 1) lc)).to (gvC_set _ _ _)
          have BO1 := (BA.chg G1 y8).setOther yg 0 (.slice (some ⟨lg, 0, none⟩) (Kn + 1) lc)
          have SV := (Chg.refl w1 [gb]).setIn (k := gb) (by simp) 0 (.slice (some ⟨lg, 0, none⟩) (Kn + 1) lc)
          have LA1 := ownsRow_chg O1 SV (by rw [ob_slice]; simpa using lgg)
          have LB2 := ownsRow_chg (ownsRow_chg LB1 G1 (fun x hx hx' => HD0.out x hx' hx)) SV (fun x hx he => g9 (by simp at he; exact he ▸ hx))
          have CV := (CA.trans G1 (fun x hx => Or.inl (HIN.out x hx))).setIn HGI.out 0 (.slice (some ⟨lg, 0, none⟩) (Kn + 1) lc)
          have bV : base ≤ (w1.setCell ⟨gb, 0, none⟩ (.slice (some ⟨lg, 0, none⟩) (Kn + 1) lc)).heap.size := Nat.le_trans ybs CV.size
          clear SV cgb fgb GB0 O1 G1 GA BA LB1 CA HLA HNW HON HBA wasz cg0 hat hlt HD0 HLT HIN
          generalize w1.setCell ⟨gb, 0, none⟩ (.slice (some ⟨lg, 0, none⟩) (Kn + 1) lc) = V at *
          have HBV : Hid (base ≤ V.heap.size) := bV
          refine wp_region_held_drew (S := fun w' => Chg V w' (gb :: ob lb0)) (by kernel_rfl) ((Chg.refl V _).drew) (fun hHeld => ?_)
          replace GB := GB.drew
          replace BO1 := BO1.drew
          replace LA1 := ownsRow_chg LA1 ((Chg.refl V []).drew) (by simp)
          replace LB2 := ownsRow_chg LB2 ((Chg.refl V []).drew) (by simp)
          refine take_val (v := ?_) 0 (some 46) rfl (by kernel_rfl) (by kernel_rfl) (by kernel_rfl) (fun _ _ _ h => h) rfl rfl (fun w hSw => ?_) hHeld ?_
          rotate_left
          · (go_simp; try with_reducible rfl)
          try simp only [Act.put, List.setIfInBounds_toArray, List.set_cons_zero, List.set_cons_succ]
          refine take_val (v := ?_) 1 (some 47) rfl (by kernel_rfl) (by kernel_rfl) (by kernel_rfl) (fun _ _ _ h => h) rfl rfl (fun w hSw => ?_) hHeld ?_
          rotate_left
          · (go_simp; try with_reducible rfl)
          try simp only [Act.put, List.setIfInBounds_toArray, List.set_cons_zero, List.set_cons_succ]
          refine take_val (v := ?_) 2 (some 48) rfl (by kernel_rfl) (by kernel_rfl) (by kernel_rfl) (fun _ _ _ h => h) rfl rfl (fun w hSw => ?_) hHeld ?_
          rotate_left
          · (go_simp; try with_reducible rfl)
          try simp only [Act.put, List.setIfInBounds_toArray, List.set_cons_zero, List.set_cons_succ]
          refine take_val (v := ?_) 3 (some 49) rfl (by kernel_rfl) (by kernel_rfl) (by kernel_rfl) (fun _ _ _ h => h) rfl rfl (fun w hSw => ?_) hHeld ?_
          rotate_left
          · (go_simp; try with_reducible rfl)
          try simp only [Act.put, List.setIfInBounds_toArray, List.set_cons_zero, List.set_cons_succ]
          refine take_val (v := ?_) 5 (some 51) rfl (by kernel_rfl) (by kernel_rfl) (by kernel_rfl) (fun _ _ _ h => h) rfl rfl (fun w hSw => ?_) hHeld ?_
          rotate_left
          · (go_simp; try with_reducible rfl)
          try simp only [Act.put, List.setIfInBounds_toArray, List.set_cons_zero, List.set_cons_succ]
          refine wpAnyH_ready (rs := [4, 6]) (by kernel_rfl) (by simp) ?_
          refine AllReadyH.cons (o := _) rfl (fun K hK => ?_) ?_
          ·
            have cg := GB.cell 1
            rw [gvC_get _ _ (by decide), upV_other _ _ _ _ (by decide), show G 1 = lb0 from HLB0.out] at cg
            rw [if_pos (by rfl)]
            go_simp
            refine hK.out _ _ (hHeld) (fun hHeld => ?_)
            clear hK K
            try simp only [Act.put, List.setIfInBounds_toArray, List.set_cons_zero, List.set_cons_succ]
            refine wpAnyH_ready (rs := [6]) (by kernel_rfl) (by simp) ?_
            refine AllReadyH.cons (o := _) rfl (fun K hK => ?_) ?_
            ·
              go_simp
              refine (CopyBytes_k y i (gvf f k) _ HI0.out (by have := HIM.out; omega) (fun j _ => gvf_lt hfl j) (by rw [show bR (gvf f k) = RR from HRR.out]; exact BO1)).mono ?_
              rintro e v7 ⟨xg, xc, rfl, OX, k7⟩
              rw [show bR (gvf f k) = RR from HRR.out] at OX
              go_wp2_with fail
              refine hK.out _ _ (hHeld.trans1 k7.wide) (fun hHeld => ?_)
              clear hK K
              try simp only [Act.put, List.setIfInBounds_toArray, List.set_cons_zero, List.set_cons_succ]
              replace GB := GB.chg k7 (by simp)
              replace BO1 := BO1.chg k7 (by simp)
              replace LA1 := ownsRow_chg LA1 k7 (by simp)
              replace LB2 := ownsRow_chg LB2 k7 (by simp)
              have bv7 : base ≤ v7.heap.size := Nat.le_trans HBV.out k7.size
              have lglt : lg < v7.heap.size := by obtain ⟨C, hC⟩ := ownsRow_blk LA1 (k := lg) (by rw [ob_slice]; simp); exact hC.lt
              have xg9 : ¬ xg ∈ ob lb0 := fun hx => by obtain ⟨C, hC⟩ := ownsRow_blk LB2 hx; obtain ⟨D, hD⟩ := ownR_blk OX (k := xg) (by rw [ob_slice]; simp); exact hD.ne hC (by decide) rfl
              have xgg : ¬ xg = gb := by obtain ⟨D, hD⟩ := ownR_blk OX (k := xg) (by rw [ob_slice]; simp); exact hD.ne GB (by decide)
              clear k7
              refine wpAnyH_ready (rs := [7]) (by kernel_rfl) (by simp) ?_
              refine AllReadyH.cons (o := _) rfl (fun K hK => ?_) ?_
              ·
                rw [if_pos (by rfl)]
                go_simp
                refine hK.out _ _ (hHeld.alloc _) (fun hHeld => ?_)
                clear hK K
                try simp only [Act.put, List.setIfInBounds_toArray, List.set_cons_zero, List.set_cons_succ]
                have AL := Blk.new v7 #[.slice (some ⟨xg, 0, none⟩) i xc] 27
                replace GB := GB.alloc (.cells #[.slice (some ⟨xg, 0, none⟩) i xc] 27)
                replace BO1 := BO1.alloc (.cells #[.slice (some ⟨xg, 0, none⟩) i xc] 27)
                replace LA1 := LA1.alloc (.cells #[.slice (some ⟨xg, 0, none⟩) i xc] 27)
                replace LB2 := LB2.alloc (.cells #[.slice (some ⟨xg, 0, none⟩) i xc] 27)
                replace OX := OX.chg ((Chg.refl v7 []).alloc (.cells #[.slice (some ⟨xg, 0, none⟩) i xc] 27)) (by simp)
                refine wpAnyH_ready (rs := [8]) (by kernel_rfl) (by simp) ?_
                refine AllReadyH.cons (o := _) rfl (fun K hK => ?_) ?_
                ·
                  rw [if_pos (by rfl)]
                  refine wp_append_lies _ (.tmp 50) (.tmp 53) 28 rfl base 27 inf (.slice none 0 0) 1 24 Try.underlying28 hinf hz hs1 hs2 rfl (by decide) lb0 Kn us rfl LB2 ⟨v7.heap.size, 0, none⟩ 1 1 [.slice (some ⟨xg, 0, none⟩) i xc] rfl rfl (fun j u hj => add_cell (by rw [Nat.zero_add, AL.cell]; simpa using hj)) (by simp [Value.oneCell']) (by decide) H63.out HBY.out (by simp; omega) (v7.heap.size + 1) (by simp) ?_
                  intro mg mc w8 O8 G8 hat8 hlt8
                  replace G8 := Chg.grown G8
                  have DJ2 : ¬ lg = mg := by
                    rcases hat8 with h | h
                    · intro e; exact DJ (by simp [ob, h, e])
                    · omega
                  refine hK.out _ _ (hHeld.trans1 (G8.incl (fun x hx => List.mem_cons_of_mem _ hx))) (fun hHeld => ?_)
                  clear hK K
                  try simp only [Act.put, List.setIfInBounds_toArray, List.set_cons_zero, List.set_cons_succ]
                  replace GB := GB.chg G8 g9
                  replace BO1 := BO1.chg G8 y9
                  replace LA1 := ownsRow_chg LA1 G8 (by rw [ob_slice]; simpa using DJ)
                  replace OX := OX.chg G8 (by rw [ob_slice]; simpa using xg9)
                  have mgg : ¬ mg = gb := by obtain ⟨C, hC⟩ := ownsRow_blk O8 (k := mg) (by rw [ob_slice]; simp); exact hC.ne GB (by decide)
                  clear G8 AL hat8 hlt8 LB2
                  refine take_val (v := ?_) 9 (some 55) rfl (by kernel_rfl) (by kernel_rfl) (by kernel_rfl) (fun _ _ _ h => h) rfl rfl (fun w hSw => ?_) hHeld ?_
                  rotate_left
                  · (go_simp; try with_reducible rfl)
                  try simp only [Act.put, List.setIfInBounds_toArray, List.set_cons_zero, List.set_cons_succ]
                  refine take_val (v := ?_) 10 (some 56) rfl (by kernel_rfl) (by kernel_rfl) (by kernel_rfl) (fun _ _ _ h => h) rfl rfl (fun w hSw => ?_) hHeld ?_
                  rotate_left
                  · (go_simp; try with_reducible rfl)
                  try simp only [Act.put, List.setIfInBounds_toArray, List.set_cons_zero, List.set_cons_succ]
                  refine wpAnyH_ready (rs := [11]) (by kernel_rfl) (by simp) ?_
                  refine AllReadyH.cons (o := _) rfl (fun K hK => ?_) ?_
                  ·
                    have cg := GB.cell 1
                    rw [gvC_get _ _ (by decide), upV_other _ _ _ _ (by decide), show G 1 = lb0 from HLB0.out] at cg
                    have fg := GB.frozen 1
                    rw [if_pos (by rfl)]
                    go_simp
                    refine hK.out _ _ (hHeld.setIn (by simp) _ _) (fun hHeld => ?_)
                    clear hK K
                    try simp only [Act.put, List.setIfInBounds_toArray, List.set_cons_zero, List.set_cons_succ]
                    refine wpAnyH_done (by kernel_rfl) ?_ _
                    have GB2 := (GB.setCell 1 (.slice (some ⟨mg, 0, none⟩) (Kn + 1) mc)).to (gvC_set _ _ _)
                    have SC := (Chg.refl w8 [gb]).setIn (k := gb) (by simp) 1 (.slice (some ⟨mg, 0, none⟩) (Kn + 1) mc)
                    have BO2 := BO1.chg SC (by simpa using yg)
                    have LA2 := ownsRow_chg LA1 SC (by rw [ob_slice]; simpa using lgg)
                    have LB3 := ownsRow_chg O8 SC (by rw [ob_slice]; simpa using mgg)
                    have OX2 := OX.chg SC (by rw [ob_slice]; simpa using xgg)
                    have C9 := CV.trans hHeld (fun x hx => Or.inl (HIN9.out x hx))
                    clear hHeld SC
                    go_wp2_with fail
                    go_ret
                    refine ⟨_, rfl, y, .slice (some ⟨lg, 0, none⟩) (Kn + 1) lc, .slice (some ⟨mg, 0, none⟩) (Kn + 1) mc, rfl, by rw [show w.heap.size = y from HY.out]; exact Nat.le_refl _, (HCW.out.wide).trans1 C9, by rw [show bR (gvf f k) = RR from HRR.out]; exact BO2, ?_⟩
                    rw [show bR (gvf f k) = RR from HRR.out]
                    exact Gv.more HG1.out (by decide) (by decide) C9 HL1.out HL2.out HJ.out GB2 LA2 LB3 (by rw [ob_slice, ob_slice]; intro x hx hx'; simp at hx hx'; exact DJ2 (hx.symm.trans hx')) (by have := HIM.out; omega) BO2 ⟨ownsRow_base OX2.1 HBV.out, OX2.2⟩
                  exact AllReadyH.nil
                exact AllReadyH.nil
              exact AllReadyH.nil
            exact AllReadyH.nil
          refine AllReadyH.cons (o := _) rfl (fun K hK => ?_) ?_
          ·
            go_simp
            refine (CopyBytes_k y i (gvf f k) _ HI0.out (by have := HIM.out; omega) (fun j _ => gvf_lt hfl j) (by rw [show bR (gvf f k) = RR from HRR.out]; exact BO1)).mono ?_
            rintro e v7 ⟨xg, xc, rfl, OX, k7⟩
            rw [show bR (gvf f k) = RR from HRR.out] at OX
            go_wp2_with fail
            refine hK.out _ _ (hHeld.trans1 k7.wide) (fun hHeld => ?_)
            clear hK K
            try simp only [Act.put, List.setIfInBounds_toArray, List.set_cons_zero, List.set_cons_succ]
            replace GB := GB.chg k7 (by simp)
            replace BO1 := BO1.chg k7 (by simp)
            replace LA1 := ownsRow_chg LA1 k7 (by simp)
            replace LB2 := ownsRow_chg LB2 k7 (by simp)
            have bv7 : base ≤ v7.heap.size := Nat.le_trans HBV.out k7.size
            have lglt : lg < v7.heap.size := by obtain ⟨C, hC⟩ := ownsRow_blk LA1 (k := lg) (by rw [ob_slice]; simp); exact hC.lt
            have xg9 : ¬ xg ∈ ob lb0 := fun hx => by obtain ⟨C, hC⟩ := ownsRow_blk LB2 hx; obtain ⟨D, hD⟩ := ownR_blk OX (k := xg) (by rw [ob_slice]; simp); exact hD.ne hC (by decide) rfl
            have xgg : ¬ xg = gb := by obtain ⟨D, hD⟩ := ownR_blk OX (k := xg) (by rw [ob_slice]; simp); exact hD.ne GB (by decide)
            clear k7
            refine wpAnyH_ready (rs := [4, 7]) (by kernel_rfl) (by simp) ?_
            refine AllReadyH.cons (o := _) rfl (fun K hK => ?_) ?_
            ·
              have cg := GB.cell 1
              rw [gvC_get _ _ (by decide), upV_other _ _ _ _ (by decide), show G 1 = lb0 from HLB0.out] at cg
              rw [if_pos (by rfl)]
              go_simp
              refine hK.out _ _ (hHeld) (fun hHeld => ?_)
              clear hK K
              try simp only [Act.put, List.setIfInBounds_toArray, List.set_cons_zero, List.set_cons_succ]
              refine wpAnyH_ready (rs := [7]) (by kernel_rfl) (by simp) ?_
              refine AllReadyH.cons (o := _) rfl (fun K hK => ?_) ?_
              ·
                rw [if_pos (by rfl)]
                go_simp
                refine hK.out _ _ (hHeld.alloc _) (fun hHeld => ?_)
                clear hK K
                try simp only [Act.put, List.setIfInBounds_toArray, List.set_cons_zero, List.set_cons_succ]
                have AL := Blk.new v7 #[.slice (some ⟨xg, 0, none⟩) i xc] 27
                replace GB := GB.alloc (.cells #[.slice (some ⟨xg, 0, none⟩) i xc] 27)
                replace BO1 := BO1.alloc (.cells #[.slice (some ⟨xg, 0, none⟩) i xc] 27)
                replace LA1 := LA1.alloc (.cells #[.slice (some ⟨xg, 0, none⟩) i xc] 27)
                replace LB2 := LB2.alloc (.cells #[.slice (some ⟨xg, 0, none⟩) i xc] 27)
                replace OX := OX.chg ((Chg.refl v7 []).alloc (.cells #[.slice (some ⟨xg, 0, none⟩) i xc] 27)) (by simp)
                refine wpAnyH_ready (rs := [8]) (by kernel_rfl) (by simp) ?_
                refine AllReadyH.cons (o := _) rfl (fun K hK => ?_) ?_
                ·
                  rw [if_pos (by rfl)]
                  refine wp_append_lies _ (.tmp 50) (.tmp 53) 28 rfl base 27 inf (.slice none 0 0) 1 24 Try.underlying28 hinf hz hs1 hs2 rfl (by decide) lb0 Kn us rfl LB2 ⟨v7.heap.size, 0, none⟩ 1 1 [.slice (some ⟨xg, 0, none⟩) i xc] rfl rfl (fun j u hj => add_cell (by rw [Nat.zero_add, AL.cell]; simpa using hj)) (by simp [Value.oneCell']) (by decide) H63.out HBY.out (by simp; omega) (v7.heap.size + 1) (by simp) ?_
                  intro mg mc w8 O8 G8 hat8 hlt8
                  replace G8 := Chg.grown G8
                  have DJ2 : ¬ lg = mg := by
                    rcases hat8 with h | h
                    · intro e; exact DJ (by simp [ob, h, e])
                    · omega
                  refine hK.out _ _ (hHeld.trans1 (G8.incl (fun x hx => List.mem_cons_of_mem _ hx))) (fun hHeld => ?_)
                  clear hK K
                  try simp only [Act.put, List.setIfInBounds_toArray, List.set_cons_zero, List.set_cons_succ]
                  replace GB := GB.chg G8 g9
                  replace BO1 := BO1.chg G8 y9
                  replace LA1 := ownsRow_chg LA1 G8 (by rw [ob_slice]; simpa using DJ)
                  replace OX := OX.chg G8 (by rw [ob_slice]; simpa using xg9)
                  have mgg : ¬ mg = gb := by obtain ⟨C, hC⟩ := ownsRow_blk O8 (k := mg) (by rw [ob_slice]; simp); exact hC.ne GB (by decide)
                  clear G8 AL hat8 hlt8 LB2
                  refine take_val (v := ?_) 9 (some 55) rfl (by kernel_rfl) (by kernel_rfl) (by kernel_rfl) (fun _ _ _ h => h) rfl rfl (fun w hSw => ?_) hHeld ?_
                  rotate_left
                  · (go_simp; try with_reducible rfl)
                  try simp only [Act.put, List.setIfInBounds_toArray, List.set_cons_zero, List.set_cons_succ]
                  refine take_val (v := ?_) 10 (some 56) rfl (by kernel_rfl) (by kernel_rfl) (by kernel_rfl) (fun _ _ _ h => h) rfl rfl (fun w hSw => ?_) hHeld ?_
                  rotate_left
                  · (go_simp; try with_reducible rfl)
                  try simp only [Act.put, List.setIfInBounds_toArray, List.set_cons_zero, List.set_cons_succ]
                  refine wpAnyH_ready (rs := [11]) (by kernel_rfl) (by simp) ?_
                  refine AllReadyH.cons (o := _) rfl (fun K hK => ?_) ?_
                  ·
                    have cg := GB.cell 1
                    rw [gvC_get _ _ (by decide), upV_other _ _ _ _ (by decide), show G 1 = lb0 from HLB0.out] at cg
                    have fg := GB.frozen 1
                    rw [if_pos (by rfl)]
                    go_simp
                    refine hK.out _ _ (hHeld.setIn (by simp) _ _) (fun hHeld => ?_)
                    clear hK K
                    try simp only [Act.put, List.setIfInBounds_toArray, List.set_cons_zero, List.set_cons_succ]
                    refine wpAnyH_done (by kernel_rfl) ?_ _
                    have GB2 := (GB.setCell 1 (.slice (some ⟨mg, 0, none⟩) (Kn + 1) mc)).to (gvC_set _ _ _)
                    have SC := (Chg.refl w8 [gb]).setIn (k := gb) (by simp) 1 (.slice (some ⟨mg, 0, none⟩) (Kn + 1) mc)
                    have BO2 := BO1.chg SC (by simpa using yg)
                    have LA2 := ownsRow_chg LA1 SC (by rw [ob_slice]; simpa using lgg)
                    have LB3 := ownsRow_chg O8 SC (by rw [ob_slice]; simpa using mgg)
                    have OX2 := OX.chg SC (by rw [ob_slice]; simpa using xgg)
                    have C9 := CV.trans hHeld (fun x hx => Or.inl (HIN9.out x hx))
                    clear hHeld SC
                    go_wp2_with fail
                    go_ret
                    refine ⟨_, rfl, y, .slice (some ⟨lg, 0, none⟩) (Kn + 1) lc, .slice (some ⟨mg, 0, none⟩) (Kn + 1) mc, rfl, by rw [show w.heap.size = y from HY.out]; exact Nat.le_refl _, (HCW.out.wide).trans1 C9, by rw [show bR (gvf f k) = RR from HRR.out]; exact BO2, ?_⟩
                    rw [show bR (gvf f k) = RR from HRR.out]
                    exact Gv.more HG1.out (by decide) (by decide) C9 HL1.out HL2.out HJ.out GB2 LA2 LB3 (by rw [ob_slice, ob_slice]; intro x hx hx'; simp at hx hx'; exact DJ2 (hx.symm.trans hx')) (by have := HIM.out; omega) BO2 ⟨ownsRow_base OX2.1 HBV.out, OX2.2⟩
                  exact AllReadyH.nil
                exact AllReadyH.nil
              exact AllReadyH.nil
            refine AllReadyH.cons (o := _) rfl (fun K hK => ?_) ?_
            ·
              rw [if_pos (by rfl)]
              go_simp
              refine hK.out _ _ (hHeld.alloc _) (fun hHeld => ?_)
              clear hK K
              try simp only [Act.put, List.setIfInBounds_toArray, List.set_cons_zero, List.set_cons_succ]
              have AL := Blk.new v7 #[.slice (some ⟨xg, 0, none⟩) i xc] 27
              replace GB := GB.alloc (.cells #[.slice (some ⟨xg, 0, none⟩) i xc] 27)
              replace BO1 := BO1.alloc (.cells #[.slice (some ⟨xg, 0, none⟩) i xc] 27)
              replace LA1 := LA1.alloc (.cells #[.slice (some ⟨xg, 0, none⟩) i xc] 27)
              replace LB2 := LB2.alloc (.cells #[.slice (some ⟨xg, 0, none⟩) i xc] 27)
              replace OX := OX.chg ((Chg.refl v7 []).alloc (.cells #[.slice (some ⟨xg, 0, none⟩) i xc] 27)) (by simp)
              refine wpAnyH_ready (rs := [4]) (by kernel_rfl) (by simp) ?_
              refine AllReadyH.cons (o := _) rfl (fun K hK => ?_) ?_
              ·
                have cg := GB.cell 1
                rw [gvC_get _ _ (by decide), upV_other _ _ _ _ (by decide), show G 1 = lb0 from HLB0.out] at cg
                rw [if_pos (by rfl)]
                go_simp
                refine hK.out _ _ (hHeld) (fun hHeld => ?_)
                clear hK K
                try simp only [Act.put, List.setIfInBounds_toArray, List.set_cons_zero, List.set_cons_succ]
                refine wpAnyH_ready (rs := [8]) (by kernel_rfl) (by simp) ?_
                refine AllReadyH.cons (o := _) rfl (fun K hK => ?_) ?_
                ·
                  rw [if_pos (by rfl)]
                  refine wp_append_lies _ (.tmp 50) (.tmp 53) 28 rfl base 27 inf (.slice none 0 0) 1 24 Try.underlying28 hinf hz hs1 hs2 rfl (by decide) lb0 Kn us rfl LB2 ⟨v7.heap.size, 0, none⟩ 1 1 [.slice (some ⟨xg, 0, none⟩) i xc] rfl rfl (fun j u hj => add_cell (by rw [Nat.zero_add, AL.cell]; simpa using hj)) (by simp [Value.oneCell']) (by decide) H63.out HBY.out (by simp; omega) (v7.heap.size + 1) (by simp) ?_
                  intro mg mc w8 O8 G8 hat8 hlt8
                  replace G8 := Chg.grown G8
                  have DJ2 : ¬ lg = mg := by
                    rcases hat8 with h | h
                    · intro e; exact DJ (by simp [ob, h, e])
                    · omega
                  refine hK.out _ _ (hHeld.trans1 (G8.incl (fun x hx => List.mem_cons_of_mem _ hx))) (fun hHeld => ?_)
                  clear hK K
                  try simp only [Act.put, List.setIfInBounds_toArray, List.set_cons_zero, List.set_cons_succ]
                  replace GB := GB.chg G8 g9
                  replace BO1 := BO1.chg G8 y9
                  replace LA1 := ownsRow_chg LA1 G8 (by rw [ob_slice]; simpa using DJ)
                  replace OX := OX.chg G8 (by rw [ob_slice]; simpa using xg9)
                  have mgg : ¬ mg = gb := by obtain ⟨C, hC⟩ := ownsRow_blk O8 (k := mg) (by rw [ob_slice]; simp); exact hC.ne GB (by decide)
                  clear G8 AL hat8 hlt8 LB2
                  refine take_val (v := ?_) 9 (some 55) rfl (by kernel_rfl) (by kernel_rfl) (by kernel_rfl) (fun _ _ _ h => h) rfl rfl (fun w hSw => ?_) hHeld ?_
                  rotate_left
                  · (go_simp; try with_reducible rfl)
                  try simp only [Act.put, List.setIfInBounds_toArray, List.set_cons_zero, List.set_cons_succ]
                  refine take_val (v := ?_) 10 (some 56) rfl (by kernel_rfl) (by kernel_rfl) (by kernel_rfl) (fun _ _ _ h => h) rfl rfl (fun w hSw => ?_) hHeld ?_
                  rotate_left
                  · (go_simp; try with_reducible rfl)
                  try simp only [Act.put, List.setIfInBounds_toArray, List.set_cons_zero, List.set_cons_succ]
                  refine wpAnyH_ready (rs := [11]) (by kernel_rfl) (by simp) ?_
                  refine AllReadyH.cons (o := _) rfl (fun K hK => ?_) ?_
                  ·
                    have cg := GB.cell 1
                    rw [gvC_get _ _ (by decide), upV_other _ _ _ _ (by decide), show G 1 = lb0 from HLB0.out] at cg
                    have fg := GB.frozen 1
                    rw [if_pos (by rfl)]
                    go_simp
                    refine hK.out _ _ (hHeld.setIn (by simp) _ _) (fun hHeld => ?_)
                    clear hK K
                    try simp only [Act.put, List.setIfInBounds_toArray, List.set_cons_zero, List.set_cons_succ]
                    refine wpAnyH_done (by kernel_rfl) ?_ _
                    have GB2 := (GB.setCell 1 (.slice (some ⟨mg, 0, none⟩) (Kn + 1) mc)).to (gvC_set _ _ _)
                    have SC := (Chg.refl w8 [gb]).setIn (k := gb) (by simp) 1 (.slice (some ⟨mg, 0, none⟩) (Kn + 1) mc)
                    have BO2 := BO1.chg SC (by simpa using yg)
                    have LA2 := ownsRow_chg LA1 SC (by rw [ob_slice]; simpa using lgg)
                    have LB3 := ownsRow_chg O8 SC (by rw [ob_slice]; simpa using mgg)
                    have OX2 := OX.chg SC (by rw [ob_slice]; simpa using xgg)
                    have C9 := CV.trans hHeld (fun x hx => Or.inl (HIN9.out x hx))
                    clear hHeld SC
                    go_wp2_with fail
                    go_ret
                    refine ⟨_, rfl, y, .slice (some ⟨lg, 0, none⟩) (Kn + 1) lc, .slice (some ⟨mg, 0, none⟩) (Kn + 1) mc, rfl, by rw [show w.heap.size = y from HY.out]; exact Nat.le_refl _, (HCW.out.wide).trans1 C9, by rw [show bR (gvf f k) = RR from HRR.out]; exact BO2, ?_⟩
                    rw [show bR (gvf f k) = RR from HRR.out]
                    exact Gv.more HG1.out (by decide) (by decide) C9 HL1.out HL2.out HJ.out GB2 LA2 LB3 (by rw [ob_slice, ob_slice]; intro x hx hx'; simp at hx hx'; exact DJ2 (hx.symm.trans hx')) (by have := HIM.out; omega) BO2 ⟨ownsRow_base OX2.1 HBV.out, OX2.2⟩
                  exact AllReadyH.nil
                exact AllReadyH.nil
              exact AllReadyH.nil
            exact AllReadyH.nil
          exact AllReadyH.nil
end Go.Proofs.Ytachilkhbfpahaa
