/- (*Given).Bytes, any number of times, of slices that may point anywhere where they are empty; Intact. -/
import Derived.Test.YtachilkhbfpahaaGvBytes
import Derived.Test.YtachilkhbfpahaaGvIB
import Derived.Test.YtachilkhbfpahaaSeA
set_option linter.unusedVariables false
set_option linter.unusedSimpArgs false
set_option linter.unnecessarySimpa false
namespace Go.Proofs.Ytachilkhbfpahaa
open Go.RowKit

set_option maxHeartbeats 8000000 in
set_option maxRecDepth 100000 in
theorem GivenBytes_kz (gb n base Kn : Nat) (v : Value) (f : Nat → Nat) (G : Nat → Value) (N : Nat → Nat) (F : Nat → Nat → List Value) (w : World) (hn : n ≤ 140737488355328) (hK : Kn ≤ 3000000) (hbase : base ≤ w.heap.size) (hv : Sz w v n f)
    (hg : Gv w gb base G 0 44 27 5 1 Kn N F) :
    Calls Try.prog 9 #[.pointer (some ⟨gb, 0, none⟩), v] w fun e w' => ∃ r, e = .returned r ∧ GvQ w w' gb base n (n + 3) f G Kn N F r := by
  have hlen : ∃ p c, v = .slice p n c := by
    obtain ⟨p, c, e, _⟩ := hv
    exact ⟨p, c, e⟩
  obtain ⟨vp, vc, rfl⟩ := hlen
  have hfl := hv.bd
  obtain ⟨m, hm⟩ : ∃ m, n + 3 = m := ⟨_, rfl⟩
  have HM : Hid (n + 3 = m) := hm
  have e1 : IntKind.i64.wrap ((n : Int) + 3) = (m : Int) := by rw [IntKind.wrap_i64]; omega
  have hmk := make_yi m (by omega)
  have B0 := Blk.new w (yC m fun _ => 0) 5
  have B1 : Blk (w.alloc (.cells (yC m fun _ => 0) 5)) w.heap.size (yC m (gv1 0)) 5 := B0.to (yC_eq fun j _ => (if_neg (by omega)).symm)
  have C1 := (Chg.refl w []).alloc (.cells (yC m fun _ => 0) 5)
  have hnm : n < m := by omega
  have hmb : m ≤ 140737488355331 := by omega
  rw [hm]
  clear hm B0 hn
  go_enter Try.func9, Try.ntmps9
  go_wp2_with fail
  clear hmk
  go_loopw [6] (fun t wr => ∃ i : Nat, i ≤ m ∧ t = .int .i64 (i : Int) ∧ Blk wr w.heap.size (yC m (gv1 i)) 5 ∧ Chg w wr []) (fun t _ => ((m : Int) - intOf t).toNat)
  case atStart => exact ⟨0, by omega, rfl, B1, C1⟩
  case round =>
    clear B1 C1
    obtain ⟨i, hi, rfl, b0, c0⟩ := hrel
    by_cases h8 : i < m
    · have hI : (i : Int) < (m : Int) := by omega
      have e2 : IntKind.i64.wrap ((i : Int) + 1) = (i : Int) + 1 := by rw [IntKind.wrap_i64]; omega
      have ck := (b0.cell i).trans (yC_get m _ i h8)
      have fk := b0.frozen i
      have b1 := (b0.setCell i (.int .u8 ((mkb i : Nat) : Int))).to (by rw [yC_set, gv1_step])
      have c1 := c0.setNew (Nat.le_refl _) i (.int .u8 ((mkb i : Nat) : Int))
      go_wp2_with fail
      refine (markBytes_s i (by omega) _).mono ?_
      rintro e v1 ⟨rfl, rfl⟩
      go_wp2_with fail
      exact ⟨⟨i + 1, by omega, by go_num, b1, c1⟩, by simp [intOf]; omega⟩
    · have h9 : i = m := by omega
      subst h9
      have hI : ¬ (i : Int) < (i : Int) := by omega
      go_wp2_with fail
      have B2 : Blk wr w.heap.size (yC i (gv2 f 0)) 5 := b0.to (yC_eq fun j hj => by unfold gv1 gv2; rw [if_pos hj, if_neg (by omega)])
      go_loopw [7] (fun t wr => ∃ k : Nat, k ≤ n ∧ t = .int .i64 (k : Int) ∧ Blk wr w.heap.size (yC i (gv2 f k)) 5 ∧ Chg w wr []) (fun t _ => ((n : Int) - intOf t).toNat)
      case atStart => exact ⟨0, by omega, rfl, B2, c0⟩
      case round =>
        clear B2 c0 b0
        obtain ⟨k, hk, rfl, b0, c0⟩ := hrel
        by_cases h8 : k < n
        · have hI1 : (k : Int) < (n : Int) := by omega
          have hI2 : (k : Int) < (i : Int) := by omega
          have e2 : IntKind.i64.wrap ((k : Int) + 1) = (k : Int) + 1 := by rw [IntKind.wrap_i64]; omega
          have ck := (b0.cell k).trans (yC_get i _ k (by omega))
          have fk := b0.frozen k
          have b1 := (b0.setCell k (.int .u8 ((f k : Nat) : Int))).to (by rw [yC_set, gv2_step])
          have c1 := c0.setNew (Nat.le_refl _) k (.int .u8 ((f k : Nat) : Int))
          obtain ⟨p', c', he, _, _, h3⟩ := hv.kept c0
          obtain ⟨g, o, hp, hb⟩ := h3 (by omega)
          subst hp
          · simp only [Value.slice.injEq] at he
            obtain ⟨rfl, _, rfl⟩ := he
            have cl := hb.cell k h8
            go_wp2_with fail
            exact ⟨⟨k + 1, by omega, by go_num, b1, c1⟩, by simp [intOf]; omega⟩
        · have h9 : k = n := by omega
          subst h9
          have hI1 : ¬ (k : Int) < (k : Int) := by omega
          obtain ⟨y, hy⟩ : ∃ y, w.heap.size = y := ⟨_, rfl⟩
          have HY : Hid (w.heap.size = y) := hy
          obtain ⟨RR, hRR⟩ : ∃ RR, bR (gvf f k) = RR := ⟨_, rfl⟩
          have HRR : Hid (bR (gvf f k) = RR) := hRR
          have HOK : Hid (Rok 1 i RR) := hRR ▸ bR_ok i (gvf f k)
          have BO : Blk wr y (rL 1 i RR).toArray 5 := hRR ▸ hy ▸ (b0.to (yC_bR i (gvf f k)))
          have HCW : Hid (Chg w wr []) := c0
          have HG1 : Hid (Gv wr gb base G 0 44 27 5 1 Kn N F) := hg.chg c0
          have hg1 := HG1.out
          have ybs : base ≤ wr.heap.size := Nat.le_trans hbase c0.size
          obtain ⟨vs, us, l1, l2, hd, hj⟩ := hg1.lists
          have HJ : Hid (∀ j, j < Kn → ∃ o x, vs[j]? = some (.slice (some ⟨o, 0, none⟩) (N j) (N j)) ∧ us[j]? = some x ∧ N j ≤ 9223372036854775807 ∧ Blk wr o (rL 1 (N j) (F j)).toArray 5 ∧ OwnR wr base 5 1 x (N j) (F j)) := hj
          have HL1 : Hid (wr.ownsRow base 27 1 (G 0) Kn vs) := l1
          have HL2 : Hid (wr.ownsRow base 27 1 (G (0 + 1)) Kn us) := l2
          have g8 : ¬ gb ∈ ob (G 0) := fun hx => by obtain ⟨C, hC⟩ := ownsRow_blk l1 hx; exact hg1.gb.ne hC (by decide) rfl
          have g9 : ¬ gb ∈ ob (G (0 + 1)) := fun hx => by obtain ⟨C, hC⟩ := ownsRow_blk l2 hx; exact hg1.gb.ne hC (by decide) rfl
          have y8 : ¬ y ∈ ob (G 0) := fun hx => by obtain ⟨C, hC⟩ := ownsRow_blk l1 hx; exact BO.ne hC (by decide) rfl
          have y9 : ¬ y ∈ ob (G (0 + 1)) := fun hx => by obtain ⟨C, hC⟩ := ownsRow_blk l2 hx; exact BO.ne hC (by decide) rfl
          have yg : ¬ y = gb := BO.ne hg1.gb (by decide)
          have HCH : Hid (gch gb G 0 = gb :: (ob (G 0) ++ ob (G (0 + 1)))) := rfl
          have GB00 := hg1.gb
          obtain ⟨la0, hla0⟩ : ∃ v, G 0 = v := ⟨_, rfl⟩
          obtain ⟨lb0, hlb0⟩ : ∃ v, G (0 + 1) = v := ⟨_, rfl⟩
          rw [hla0] at g8 y8 l1 hd
          rw [hlb0] at g9 y9 l2 hd
          have cg0 : wr.cell? ⟨gb, 0, none⟩ = some la0 := by rw [GB00.cell, gvC_get _ _ (by decide), hla0]
          have HLA0 : Hid (G 0 = la0) := hla0
          have HLB0 : Hid (G (0 + 1) = lb0) := hlb0
          rw [hy]
          have HI0 : Hid (0 < i) := by show 0 < i; omega
          have HIM : Hid (i ≤ 140737488355331) := by show i ≤ 140737488355331; omega
          have hki : (k : Int) ≤ (i : Int) := by omega
          obtain ⟨inf, hinf, hz, hs1, hs2⟩ := listRow
          have AL := Blk.new wr #[.slice (some ⟨y, 0, none⟩) i i] 27
          have HNW : Hid (∀ j u, ([.slice (some ⟨y, 0, none⟩) i i] : List Value)[j]? = some u → (wr.alloc (.cells #[.slice (some ⟨y, 0, none⟩) i i] 27)).cell? ((⟨wr.heap.size, 0, none⟩ : Addr).add j) = some u) := by
            intro j u hj
            refine add_cell ?_
            rw [Nat.zero_add, AL.cell]
            simpa using hj
          have HLA : Hid ((wr.alloc (.cells #[.slice (some ⟨y, 0, none⟩) i i] 27)).ownsRow base 27 1 la0 Kn vs) := l1.alloc _
          have H63 : Hid (Kn + 1 ≤ maxLen) := by show Kn + 1 ≤ maxLen; simp only [maxLen]; omega
          have HBY : Hid ((Kn + 1) * 24 ≤ 140737488355328) := by show (Kn + 1) * 24 ≤ 140737488355328; omega
          have HBA : Hid (base ≤ (wr.alloc (.cells #[.slice (some ⟨y, 0, none⟩) i i] 27)).heap.size) := by show base ≤ _; simp; omega
          have HON : Hid (∀ u ∈ ([.slice (some ⟨y, 0, none⟩) i i] : List Value), u.oneCell' = true) := by show ∀ u ∈ ([.slice (some ⟨y, 0, none⟩) i i] : List Value), u.oneCell' = true; simp [Value.oneCell']
          have GA := GB00.alloc (.cells #[.slice (some ⟨y, 0, none⟩) i i] 27)
          have BA := BO.alloc (.cells #[.slice (some ⟨y, 0, none⟩) i i] 27)
          have LB1 := l2.alloc (.cells #[.slice (some ⟨y, 0, none⟩) i i] 27)
          have HD0 : Hid (∀ x, x ∈ ob la0 → ¬ x ∈ ob lb0) := hd
          have HLT : Hid (∀ x, x ∈ ob lb0 → x < wr.heap.size) := fun x hx => by obtain ⟨C, hC⟩ := ownsRow_blk l2 hx; exact hC.lt
          have CA := (Chg.refl wr (gch gb G 0)).alloc (.cells #[.slice (some ⟨y, 0, none⟩) i i] 27)
          have HIN : Hid (∀ x, x ∈ ob la0 → x ∈ gch gb G 0) := fun x hx => by rw [HCH.out, hla0]; simp [hx]
          have HIN9 : Hid (∀ x, x ∈ gb :: ob lb0 → x ∈ gch gb G 0) := fun x hx => by rw [HCH.out, hlb0]; simp only [List.mem_cons, List.mem_append] at hx ⊢; rcases hx with h | h <;> simp [h]
          have HGI : Hid (gb ∈ gch gb G 0) := List.mem_cons_self
          have wasz : (wr.alloc (.cells #[.slice (some ⟨y, 0, none⟩) i i] 27)).heap.size = wr.heap.size + 1 := by simp
          clear hy hRR b0 hv hg hj hd AL l1 l2 BO hg1 GB00 c0 hla0 hlb0 hnm hmb hk h8 hK
          go_wp2_with (with_reducible refine wpList_append_lies _ ?_ (.tmp 40) (.tmp 42) 28 ?_ base 27 inf (.slice none 0 0) 1 24 Try.underlying28 hinf hz hs1 hs2 ?_ ?_ la0 Kn vs ?_ HLA.out ⟨wr.heap.size, 0, none⟩ 1 1 [.slice (some ⟨y, 0, none⟩) i i] ?_ ?_ HNW.out HON.out ?_ H63.out HBY.out HBA.out (wr.heap.size + 1) ?_ ?_
                       · rfl
                       · rfl
                       · rfl
                       · decide
                       · rfl
                       · rfl
                       · rfl
                       · decide
                       · exact wasz
                       intro lg lc w1 O1 G1 hat hlt
                       replace G1 := Chg.grown G1
                       have GB0 := GA.chg G1 g8
                       have cgb : w1.cell? ⟨gb, 0, none⟩ = some la0 := by rw [GB0.cell, gvC_get _ _ (by decide)]; exact congrArg some HLA0.out
                       have fgb := GB0.frozen 0)
          have lgg : ¬ lg = gb := by obtain ⟨C, hC⟩ := ownsRow_blk O1 (k := lg) (by rw [ob_slice]; simp); exact hC.ne GB0 (by decide)
          have DJ : ¬ lg ∈ ob lb0 := by
            rcases hat with h | h
            · exact HD0.out lg (by simp [ob, h])
            · intro hx
              have := HLT.out lg hx
              omega
          have GB := (GB0.setCell 0 (.slice (some ⟨lg, 0, none⟩) (Kn + 1) lc)).to (gvC_set _ _ _)
          have BO1 := (BA.chg G1 y8).setOther yg 0 (.slice (some ⟨lg, 0, none⟩) (Kn + 1) lc)
          have SV := (Chg.refl w1 [gb]).setIn (k := gb) (by simp) 0 (.slice (some ⟨lg, 0, none⟩) (Kn + 1) lc)
          have LA1 := ownsRow_chg O1 SV (by rw [ob_slice]; simpa using lgg)
          have LB2 := ownsRow_chg (ownsRow_chg LB1 G1 (fun x hx hx' => HD0.out x hx' hx)) SV (fun x hx he => g9 (by simp at he; exact he ▸ hx))
          have CV := (CA.trans G1 (fun x hx => Or.inl (HIN.out x hx))).setIn HGI.out 0 (.slice (some ⟨lg, 0, none⟩) (Kn + 1) lc)
          have bV : base ≤ (w1.setCell ⟨gb, 0, none⟩ (.slice (some ⟨lg, 0, none⟩) (Kn + 1) lc)).heap.size := Nat.le_trans ybs CV.size
          clear SV cgb fgb GB0 O1 G1 GA BA LB1 CA HLA HNW HON HBA wasz cg0 hat hlt HD0 HLT HIN
          generalize w1.setCell ⟨gb, 0, none⟩ (.slice (some ⟨lg, 0, none⟩) (Kn + 1) lc) = V at *
          have HBV : Hid (base ≤ V.heap.size) := bV
          refine wp_region_held_drew (S := fun w' => Chg V w' (gb :: ob lb0)) (by kernel_rfl) ((Chg.refl V _).drew) (fun hHeld => ?_)
          replace GB := GB.drew
          replace BO1 := BO1.drew
          replace LA1 := ownsRow_chg LA1 ((Chg.refl V []).drew) (by simp)
          replace LB2 := ownsRow_chg LB2 ((Chg.refl V []).drew) (by simp)
          refine take_val (v := ?_) 0 (some 46) rfl (by kernel_rfl) (by kernel_rfl) (by kernel_rfl) (fun _ _ _ h => h) rfl rfl (fun w hSw => ?_) hHeld ?_
          rotate_left
          · (go_simp; try with_reducible rfl)
          try simp only [Act.put, List.setIfInBounds_toArray, List.set_cons_zero, List.set_cons_succ]
          refine take_val (v := ?_) 1 (some 47) rfl (by kernel_rfl) (by kernel_rfl) (by kernel_rfl) (fun _ _ _ h => h) rfl rfl (fun w hSw => ?_) hHeld ?_
          rotate_left
          · (go_simp; try with_reducible rfl)
          try simp only [Act.put, List.setIfInBounds_toArray, List.set_cons_zero, List.set_cons_succ]
          refine take_val (v := ?_) 2 (some 48) rfl (by kernel_rfl) (by kernel_rfl) (by kernel_rfl) (fun _ _ _ h => h) rfl rfl (fun w hSw => ?_) hHeld ?_
          rotate_left
          · (go_simp; try with_reducible rfl)
          try simp only [Act.put, List.setIfInBounds_toArray, List.set_cons_zero, List.set_cons_succ]
          refine take_val (v := ?_) 3 (some 49) rfl (by kernel_rfl) (by kernel_rfl) (by kernel_rfl) (fun _ _ _ h => h) rfl rfl (fun w hSw => ?_) hHeld ?_
          rotate_left
          · (go_simp; try with_reducible rfl)
          try simp only [Act.put, List.setIfInBounds_toArray, List.set_cons_zero, List.set_cons_succ]
          refine take_val (v := ?_) 5 (some 51) rfl (by kernel_rfl) (by kernel_rfl) (by kernel_rfl) (fun _ _ _ h => h) rfl rfl (fun w hSw => ?_) hHeld ?_
          rotate_left
          · (go_simp; try with_reducible rfl)
          try simp only [Act.put, List.setIfInBounds_toArray, List.set_cons_zero, List.set_cons_succ]
          refine wpAnyH_ready (rs := [4, 6]) (by kernel_rfl) (by simp) ?_
          refine AllReadyH.cons (o := _) rfl (fun K hK => ?_) ?_
          ·
            have cg := GB.cell 1
            rw [gvC_get _ _ (by decide), upV_other _ _ _ _ (by decide), show G 1 = lb0 from HLB0.out] at cg
            rw [if_pos (by rfl)]
            go_simp
            refine hK.out _ _ (hHeld) (fun hHeld => ?_)
            clear hK K
            try simp only [Act.put, List.setIfInBounds_toArray, List.set_cons_zero, List.set_cons_succ]
            refine wpAnyH_ready (rs := [6]) (by kernel_rfl) (by simp) ?_
            refine AllReadyH.cons (o := _) rfl (fun K hK => ?_) ?_
            ·
              go_simp
              refine (CopyBytes_k y i (gvf f k) _ HI0.out (by have := HIM.out; omega) (fun j _ => gvf_lt hfl j) (by rw [show bR (gvf f k) = RR from HRR.out]; exact BO1)).mono ?_
              rintro e v7 ⟨xg, xc, rfl, OX, k7⟩
              rw [show bR (gvf f k) = RR from HRR.out] at OX
              go_wp2_with fail
              refine hK.out _ _ (hHeld.trans1 k7.wide) (fun hHeld => ?_)
              clear hK K
              try simp only [Act.put, List.setIfInBounds_toArray, List.set_cons_zero, List.set_cons_succ]
              replace GB := GB.chg k7 (by simp)
              replace BO1 := BO1.chg k7 (by simp)
              replace LA1 := ownsRow_chg LA1 k7 (by simp)
              replace LB2 := ownsRow_chg LB2 k7 (by simp)
              have bv7 : base ≤ v7.heap.size := Nat.le_trans HBV.out k7.size
              have lglt : lg < v7.heap.size := by obtain ⟨C, hC⟩ := ownsRow_blk LA1 (k := lg) (by rw [ob_slice]; simp); exact hC.lt
              have xg9 : ¬ xg ∈ ob lb0 := fun hx => by obtain ⟨C, hC⟩ := ownsRow_blk LB2 hx; obtain ⟨D, hD⟩ := ownR_blk OX (k := xg) (by rw [ob_slice]; simp); exact hD.ne hC (by decide) rfl
              have xgg : ¬ xg = gb := by obtain ⟨D, hD⟩ := ownR_blk OX (k := xg) (by rw [ob_slice]; simp); exact hD.ne GB (by decide)
              clear k7
              refine wpAnyH_ready (rs := [7]) (by kernel_rfl) (by simp) ?_
              refine AllReadyH.cons (o := _) rfl (fun K hK => ?_) ?_
              ·
                rw [if_pos (by rfl)]
                go_simp
                refine hK.out _ _ (hHeld.alloc _) (fun hHeld => ?_)
                clear hK K
                try simp only [Act.put, List.setIfInBounds_toArray, List.set_cons_zero, List.set_cons_succ]
                have AL := Blk.new v7 #[.slice (some ⟨xg, 0, none⟩) i xc] 27
                replace GB := GB.alloc (.cells #[.slice (some ⟨xg, 0, none⟩) i xc] 27)
                replace BO1 := BO1.alloc (.cells #[.slice (some ⟨xg, 0, none⟩) i xc] 27)
                replace LA1 := LA1.alloc (.cells #[.slice (some ⟨xg, 0, none⟩) i xc] 27)
                replace LB2 := LB2.alloc (.cells #[.slice (some ⟨xg, 0, none⟩) i xc] 27)
                replace OX := OX.chg ((Chg.refl v7 []).alloc (.cells #[.slice (some ⟨xg, 0, none⟩) i xc] 27)) (by simp)
                refine wpAnyH_ready (rs := [8]) (by kernel_rfl) (by simp) ?_
                refine AllReadyH.cons (o := _) rfl (fun K hK => ?_) ?_
                ·
                  rw [if_pos (by rfl)]
                  refine wp_append_lies _ (.tmp 50) (.tmp 53) 28 rfl base 27 inf (.slice none 0 0) 1 24 Try.underlying28 hinf hz hs1 hs2 rfl (by decide) lb0 Kn us rfl LB2 ⟨v7.heap.size, 0, none⟩ 1 1 [.slice (some ⟨xg, 0, none⟩) i xc] rfl rfl (fun j u hj => add_cell (by rw [Nat.zero_add, AL.cell]; simpa using hj)) (by simp [Value.oneCell']) (by decide) H63.out HBY.out (by simp; omega) (v7.heap.size + 1) (by simp) ?_
                  intro mg mc w8 O8 G8 hat8 hlt8
                  replace G8 := Chg.grown G8
                  have DJ2 : ¬ lg = mg := by
                    rcases hat8 with h | h
                    · intro e; exact DJ (by simp [ob, h, e])
                    · omega
                  refine hK.out _ _ (hHeld.trans1 (G8.incl (fun x hx => List.mem_cons_of_mem _ hx))) (fun hHeld => ?_)
                  clear hK K
                  try simp only [Act.put, List.setIfInBounds_toArray, List.set_cons_zero, List.set_cons_succ]
                  replace GB := GB.chg G8 g9
                  replace BO1 := BO1.chg G8 y9
                  replace LA1 := ownsRow_chg LA1 G8 (by rw [ob_slice]; simpa using DJ)
                  replace OX := OX.chg G8 (by rw [ob_slice]; simpa using xg9)
                  have mgg : ¬ mg = gb := by obtain ⟨C, hC⟩ := ownsRow_blk O8 (k := mg) (by rw [ob_slice]; simp); exact hC.ne GB (by decide)
                  clear G8 AL hat8 hlt8 LB2
                  refine take_val (v := ?_) 9 (some 55) rfl (by kernel_rfl) (by kernel_rfl) (by kernel_rfl) (fun _ _ _ h => h) rfl rfl (fun w hSw => ?_) hHeld ?_
                  rotate_left
                  · (go_simp; try with_reducible rfl)
                  try simp only [Act.put, List.setIfInBounds_toArray, List.set_cons_zero, List.set_cons_succ]
                  refine take_val (v := ?_) 10 (some 56) rfl (by kernel_rfl) (by kernel_rfl) (by kernel_rfl) (fun _ _ _ h => h) rfl rfl (fun w hSw => ?_) hHeld ?_
                  rotate_left
                  · (go_simp; try with_reducible rfl)
                  try simp only [Act.put, List.setIfInBounds_toArray, List.set_cons_zero, List.set_cons_succ]
                  refine wpAnyH_ready (rs := [11]) (by kernel_rfl) (by simp) ?_
                  refine AllReadyH.cons (o := _) rfl (fun K hK => ?_) ?_
                  ·
                    have cg := GB.cell 1
                    rw [gvC_get _ _ (by decide), upV_other _ _ _ _ (by decide), show G 1 = lb0 from HLB0.out] at cg
                    have fg := GB.frozen 1
                    rw [if_pos (by rfl)]
                    go_simp
                    refine hK.out _ _ (hHeld.setIn (by simp) _ _) (fun hHeld => ?_)
                    clear hK K
                    try simp only [Act.put, List.setIfInBounds_toArray, List.set_cons_zero, List.set_cons_succ]
                    refine wpAnyH_done (by kernel_rfl) ?_ _
                    have GB2 := (GB.setCell 1 (.slice (some ⟨mg, 0, none⟩) (Kn + 1) mc)).to (gvC_set _ _ _)
                    have SC := (Chg.refl w8 [gb]).setIn (k := gb) (by simp) 1 (.slice (some ⟨mg, 0, none⟩) (Kn + 1) mc)
                    have BO2 := BO1.chg SC (by simpa using yg)
                    have LA2 := ownsRow_chg LA1 SC (by rw [ob_slice]; simpa using lgg)
                    have LB3 := ownsRow_chg O8 SC (by rw [ob_slice]; simpa using mgg)
                    have OX2 := OX.chg SC (by rw [ob_slice]; simpa using xgg)
                    have C9 := CV.trans hHeld (fun x hx => Or.inl (HIN9.out x hx))
                    clear hHeld SC
                    go_wp2_with fail
                    go_ret
                    refine ⟨_, rfl, y, .slice (some ⟨lg, 0, none⟩) (Kn + 1) lc, .slice (some ⟨mg, 0, none⟩) (Kn + 1) mc, rfl, by rw [show w.heap.size = y from HY.out]; exact Nat.le_refl _, (HCW.out.wide).trans1 C9, by rw [show bR (gvf f k) = RR from HRR.out]; exact BO2, ?_⟩
                    rw [show bR (gvf f k) = RR from HRR.out]
                    exact Gv.more HG1.out (by decide) (by decide) C9 HL1.out HL2.out HJ.out GB2 LA2 LB3 (by rw [ob_slice, ob_slice]; intro x hx hx'; simp at hx hx'; exact DJ2 (hx.symm.trans hx')) (by have := HIM.out; omega) BO2 ⟨ownsRow_base OX2.1 HBV.out, OX2.2⟩
                  exact AllReadyH.nil
                exact AllReadyH.nil
              exact AllReadyH.nil
            exact AllReadyH.nil
          refine AllReadyH.cons (o := _) rfl (fun K hK => ?_) ?_
          ·
            go_simp
            refine (CopyBytes_k y i (gvf f k) _ HI0.out (by have := HIM.out; omega) (fun j _ => gvf_lt hfl j) (by rw [show bR (gvf f k) = RR from HRR.out]; exact BO1)).mono ?_
            rintro e v7 ⟨xg, xc, rfl, OX, k7⟩
            rw [show bR (gvf f k) = RR from HRR.out] at OX
            go_wp2_with fail
            refine hK.out _ _ (hHeld.trans1 k7.wide) (fun hHeld => ?_)
            clear hK K
            try simp only [Act.put, List.setIfInBounds_toArray, List.set_cons_zero, List.set_cons_succ]
            replace GB := GB.chg k7 (by simp)
            replace BO1 := BO1.chg k7 (by simp)
            replace LA1 := ownsRow_chg LA1 k7 (by simp)
            replace LB2 := ownsRow_chg LB2 k7 (by simp)
            have bv7 : base ≤ v7.heap.size := Nat.le_trans HBV.out k7.size
            have lglt : lg < v7.heap.size := by obtain ⟨C, hC⟩ := ownsRow_blk LA1 (k := lg) (by rw [ob_slice]; simp); exact hC.lt
            have xg9 : ¬ xg ∈ ob lb0 := fun hx => by obtain ⟨C, hC⟩ := ownsRow_blk LB2 hx; obtain ⟨D, hD⟩ := ownR_blk OX (k := xg) (by rw [ob_slice]; simp); exact hD.ne hC (by decide) rfl
            have xgg : ¬ xg = gb := by obtain ⟨D, hD⟩ := ownR_blk OX (k := xg) (by rw [ob_slice]; simp); exact hD.ne GB (by decide)
            clear k7
            refine wpAnyH_ready (rs := [4, 7]) (by kernel_rfl) (by simp) ?_
            refine AllReadyH.cons (o := _) rfl (fun K hK => ?_) ?_
            ·
              have cg := GB.cell 1
              rw [gvC_get _ _ (by decide), upV_other _ _ _ _ (by decide), show G 1 = lb0 from HLB0.out] at cg
              rw [if_pos (by rfl)]
              go_simp
              refine hK.out _ _ (hHeld) (fun hHeld => ?_)
              clear hK K
              try simp only [Act.put, List.setIfInBounds_toArray, List.set_cons_zero, List.set_cons_succ]
              refine wpAnyH_ready (rs := [7]) (by kernel_rfl) (by simp) ?_
              refine AllReadyH.cons (o := _) rfl (fun K hK => ?_) ?_
              ·
                rw [if_pos (by rfl)]
                go_simp
                refine hK.out _ _ (hHeld.alloc _) (fun hHeld => ?_)
                clear hK K
                try simp only [Act.put, List.setIfInBounds_toArray, List.set_cons_zero, List.set_cons_succ]
                have AL := Blk.new v7 #[.slice (some ⟨xg, 0, none⟩) i xc] 27
                replace GB := GB.alloc (.cells #[.slice (some ⟨xg, 0, none⟩) i xc] 27)
                replace BO1 := BO1.alloc (.cells #[.slice (some ⟨xg, 0, none⟩) i xc] 27)
                replace LA1 := LA1.alloc (.cells #[.slice (some ⟨xg, 0, none⟩) i xc] 27)
                replace LB2 := LB2.alloc (.cells #[.slice (some ⟨xg, 0, none⟩) i xc] 27)
                replace OX := OX.chg ((Chg.refl v7 []).alloc (.cells #[.slice (some ⟨xg, 0, none⟩) i xc] 27)) (by simp)
                refine wpAnyH_ready (rs := [8]) (by kernel_rfl) (by simp) ?_
                refine AllReadyH.cons (o := _) rfl (fun K hK => ?_) ?_
                ·
                  rw [if_pos (by rfl)]
                  refine wp_append_lies _ (.tmp 50) (.tmp 53) 28 rfl base 27 inf (.slice none 0 0) 1 24 Try.underlying28 hinf hz hs1 hs2 rfl (by decide) lb0 Kn us rfl LB2 ⟨v7.heap.size, 0, none⟩ 1 1 [.slice (some ⟨xg, 0, none⟩) i xc] rfl rfl (fun j u hj => add_cell (by rw [Nat.zero_add, AL.cell]; simpa using hj)) (by simp [Value.oneCell']) (by decide) H63.out HBY.out (by simp; omega) (v7.heap.size + 1) (by simp) ?_
                  intro mg mc w8 O8 G8 hat8 hlt8
                  replace G8 := Chg.grown G8
                  have DJ2 : ¬ lg = mg := by
                    rcases hat8 with h | h
                    · intro e; exact DJ (by simp [ob, h, e])
                    · omega
                  refine hK.out _ _ (hHeld.trans1 (G8.incl (fun x hx => List.mem_cons_of_mem _ hx))) (fun hHeld => ?_)
                  clear hK K
                  try simp only [Act.put, List.setIfInBounds_toArray, List.set_cons_zero, List.set_cons_succ]
                  replace GB := GB.chg G8 g9
                  replace BO1 := BO1.chg G8 y9
                  replace LA1 := ownsRow_chg LA1 G8 (by rw [ob_slice]; simpa using DJ)
                  replace OX := OX.chg G8 (by rw [ob_slice]; simpa using xg9)
                  have mgg : ¬ mg = gb := by obtain ⟨C, hC⟩ := ownsRow_blk O8 (k := mg) (by rw [ob_slice]; simp); exact hC.ne GB (by decide)
                  clear G8 AL hat8 hlt8 LB2
                  refine take_val (v := ?_) 9 (some 55) rfl (by kernel_rfl) (by kernel_rfl) (by kernel_rfl) (fun _ _ _ h => h) rfl rfl (fun w hSw => ?_) hHeld ?_
                  rotate_left
                  · (go_simp; try with_reducible rfl)
                  try simp only [Act.put, List.setIfInBounds_toArray, List.set_cons_zero, List.set_cons_succ]
                  refine take_val (v := ?_) 10 (some 56) rfl (by kernel_rfl) (by kernel_rfl) (by kernel_rfl) (fun _ _ _ h => h) rfl rfl (fun w hSw => ?_) hHeld ?_
                  rotate_left
                  · (go_simp; try with_reducible rfl)
                  try simp only [Act.put, List.setIfInBounds_toArray, List.set_cons_zero, List.set_cons_succ]
                  refine wpAnyH_ready (rs := [11]) (by kernel_rfl) (by simp) ?_
                  refine AllReadyH.cons (o := _) rfl (fun K hK => ?_) ?_
                  ·
                    have cg := GB.cell 1
                    rw [gvC_get _ _ (by decide), upV_other _ _ _ _ (by decide), show G 1 = lb0 from HLB0.out] at cg
                    have fg := GB.frozen 1
                    rw [if_pos (by rfl)]
                    go_simp
                    refine hK.out _ _ (hHeld.setIn (by simp) _ _) (fun hHeld => ?_)
                    clear hK K
                    try simp only [Act.put, List.setIfInBounds_toArray, List.set_cons_zero, List.set_cons_succ]
                    refine wpAnyH_done (by kernel_rfl) ?_ _
                    have GB2 := (GB.setCell 1 (.slice (some ⟨mg, 0, none⟩) (Kn + 1) mc)).to (gvC_set _ _ _)
                    have SC := (Chg.refl w8 [gb]).setIn (k := gb) (by simp) 1 (.slice (some ⟨mg, 0, none⟩) (Kn + 1) mc)
                    have BO2 := BO1.chg SC (by simpa using yg)
                    have LA2 := ownsRow_chg LA1 SC (by rw [ob_slice]; simpa using lgg)
                    have LB3 := ownsRow_chg O8 SC (by rw [ob_slice]; simpa using mgg)
                    have OX2 := OX.chg SC (by rw [ob_slice]; simpa using xgg)
                    have C9 := CV.trans hHeld (fun x hx => Or.inl (HIN9.out x hx))
                    clear hHeld SC
                    go_wp2_with fail
                    go_ret
                    refine ⟨_, rfl, y, .slice (some ⟨lg, 0, none⟩) (Kn + 1) lc, .slice (some ⟨mg, 0, none⟩) (Kn + 1) mc, rfl, by rw [show w.heap.size = y from HY.out]; exact Nat.le_refl _, (HCW.out.wide).trans1 C9, by rw [show bR (gvf f k) = RR from HRR.out]; exact BO2, ?_⟩
                    rw [show bR (gvf f k) = RR from HRR.out]
                    exact Gv.more HG1.out (by decide) (by decide) C9 HL1.out HL2.out HJ.out GB2 LA2 LB3 (by rw [ob_slice, ob_slice]; intro x hx hx'; simp at hx hx'; exact DJ2 (hx.symm.trans hx')) (by have := HIM.out; omega) BO2 ⟨ownsRow_base OX2.1 HBV.out, OX2.2⟩
                  exact AllReadyH.nil
                exact AllReadyH.nil
              exact AllReadyH.nil
            refine AllReadyH.cons (o := _) rfl (fun K hK => ?_) ?_
            ·
              rw [if_pos (by rfl)]
              go_simp
              refine hK.out _ _ (hHeld.alloc _) (fun hHeld => ?_)
              clear hK K
              try simp only [Act.put, List.setIfInBounds_toArray, List.set_cons_zero, List.set_cons_succ]
              have AL := Blk.new v7 #[.slice (some ⟨xg, 0, none⟩) i xc] 27
              replace GB := GB.alloc (.cells #[.slice (some ⟨xg, 0, none⟩) i xc] 27)
              replace BO1 := BO1.alloc (.cells #[.slice (some ⟨xg, 0, none⟩) i xc] 27)
              replace LA1 := LA1.alloc (.cells #[.slice (some ⟨xg, 0, none⟩) i xc] 27)
              replace LB2 := LB2.alloc (.cells #[.slice (some ⟨xg, 0, none⟩) i xc] 27)
              replace OX := OX.chg ((Chg.refl v7 []).alloc (.cells #[.slice (some ⟨xg, 0, none⟩) i xc] 27)) (by simp)
              refine wpAnyH_ready (rs := [4]) (by kernel_rfl) (by simp) ?_
              refine AllReadyH.cons (o := _) rfl (fun K hK => ?_) ?_
              ·
                have cg := GB.cell 1
                rw [gvC_get _ _ (by decide), upV_other _ _ _ _ (by decide), show G 1 = lb0 from HLB0.out] at cg
                rw [if_pos (by rfl)]
                go_simp
                refine hK.out _ _ (hHeld) (fun hHeld => ?_)
                clear hK K
                try simp only [Act.put, List.setIfInBounds_toArray, List.set_cons_zero, List.set_cons_succ]
                refine wpAnyH_ready (rs := [8]) (by kernel_rfl) (by simp) ?_
                refine AllReadyH.cons (o := _) rfl (fun K hK => ?_) ?_
                ·
                  rw [if_pos (by rfl)]
                  refine wp_append_lies _ (.tmp 50) (.tmp 53) 28 rfl base 27 inf (.slice none 0 0) 1 24 Try.underlying28 hinf hz hs1 hs2 rfl (by decide) lb0 Kn us rfl LB2 ⟨v7.heap.size, 0, none⟩ 1 1 [.slice (some ⟨xg, 0, none⟩) i xc] rfl rfl (fun j u hj => add_cell (by rw [Nat.zero_add, AL.cell]; simpa using hj)) (by simp [Value.oneCell']) (by decide) H63.out HBY.out (by simp; omega) (v7.heap.size + 1) (by simp) ?_
                  intro mg mc w8 O8 G8 hat8 hlt8
                  replace G8 := Chg.grown G8
                  have DJ2 : ¬ lg = mg := by
                    rcases hat8 with h | h
                    · intro e; exact DJ (by simp [ob, h, e])
                    · omega
                  refine hK.out _ _ (hHeld.trans1 (G8.incl (fun x hx => List.mem_cons_of_mem _ hx))) (fun hHeld => ?_)
                  clear hK K
                  try simp only [Act.put, List.setIfInBounds_toArray, List.set_cons_zero, List.set_cons_succ]
                  replace GB := GB.chg G8 g9
                  replace BO1 := BO1.chg G8 y9
                  replace LA1 := ownsRow_chg LA1 G8 (by rw [ob_slice]; simpa using DJ)
                  replace OX := OX.chg G8 (by rw [ob_slice]; simpa using xg9)
                  have mgg : ¬ mg = gb := by obtain ⟨C, hC⟩ := ownsRow_blk O8 (k := mg) (by rw [ob_slice]; simp); exact hC.ne GB (by decide)
                  clear G8 AL hat8 hlt8 LB2
                  refine take_val (v := ?_) 9 (some 55) rfl (by kernel_rfl) (by kernel_rfl) (by kernel_rfl) (fun _ _ _ h => h) rfl rfl (fun w hSw => ?_) hHeld ?_
                  rotate_left
                  · (go_simp; try with_reducible rfl)
                  try simp only [Act.put, List.setIfInBounds_toArray, List.set_cons_zero, List.set_cons_succ]
                  refine take_val (v := ?_) 10 (some 56) rfl (by kernel_rfl) (by kernel_rfl) (by kernel_rfl) (fun _ _ _ h => h) rfl rfl (fun w hSw => ?_) hHeld ?_
                  rotate_left
                  · (go_simp; try with_reducible rfl)
                  try simp only [Act.put, List.setIfInBounds_toArray, List.set_cons_zero, List.set_cons_succ]
                  refine wpAnyH_ready (rs := [11]) (by kernel_rfl) (by simp) ?_
                  refine AllReadyH.cons (o := _) rfl (fun K hK => ?_) ?_
                  ·
                    have cg := GB.cell 1
                    rw [gvC_get _ _ (by decide), upV_other _ _ _ _ (by decide), show G 1 = lb0 from HLB0.out] at cg
                    have fg := GB.frozen 1
                    rw [if_pos (by rfl)]
                    go_simp
                    refine hK.out _ _ (hHeld.setIn (by simp) _ _) (fun hHeld => ?_)
                    clear hK K
                    try simp only [Act.put, List.setIfInBounds_toArray, List.set_cons_zero, List.set_cons_succ]
                    refine wpAnyH_done (by kernel_rfl) ?_ _
                    have GB2 := (GB.setCell 1 (.slice (some ⟨mg, 0, none⟩) (Kn + 1) mc)).to (gvC_set _ _ _)
                    have SC := (Chg.refl w8 [gb]).setIn (k := gb) (by simp) 1 (.slice (some ⟨mg, 0, none⟩) (Kn + 1) mc)
                    have BO2 := BO1.chg SC (by simpa using yg)
                    have LA2 := ownsRow_chg LA1 SC (by rw [ob_slice]; simpa using lgg)
                    have LB3 := ownsRow_chg O8 SC (by rw [ob_slice]; simpa using mgg)
                    have OX2 := OX.chg SC (by rw [ob_slice]; simpa using xgg)
                    have C9 := CV.trans hHeld (fun x hx => Or.inl (HIN9.out x hx))
                    clear hHeld SC
                    go_wp2_with fail
                    go_ret
                    refine ⟨_, rfl, y, .slice (some ⟨lg, 0, none⟩) (Kn + 1) lc, .slice (some ⟨mg, 0, none⟩) (Kn + 1) mc, rfl, by rw [show w.heap.size = y from HY.out]; exact Nat.le_refl _, (HCW.out.wide).trans1 C9, by rw [show bR (gvf f k) = RR from HRR.out]; exact BO2, ?_⟩
                    rw [show bR (gvf f k) = RR from HRR.out]
                    exact Gv.more HG1.out (by decide) (by decide) C9 HL1.out HL2.out HJ.out GB2 LA2 LB3 (by rw [ob_slice, ob_slice]; intro x hx hx'; simp at hx hx'; exact DJ2 (hx.symm.trans hx')) (by have := HIM.out; omega) BO2 ⟨ownsRow_base OX2.1 HBV.out, OX2.2⟩
                  exact AllReadyH.nil
                exact AllReadyH.nil
              exact AllReadyH.nil
            exact AllReadyH.nil
          exact AllReadyH.nil
set_option maxHeartbeats 16000000 in
set_option maxRecDepth 100000 in
theorem Intact_bz (gb base Kn : Nat) (G : Nat → Value) (N : Nat → Nat) (F : Nat → Nat → List Value) (w : World) (hK : Kn ≤ 3000000) (hG : Gv w gb base G 0 44 27 5 1 Kn N F)
    (hz : ∀ q, q < 30 → ¬ q = 0 → ¬ q = 1 → G q = .slice none 0 0) (hN : ∀ j, j < Kn → N j ≤ 140737488355328) (hF : ∀ j, j < Kn → ∃ f : Nat → Nat, F j = bR f ∧ ∀ i, i < N j → f i < 256) :
    Calls Try.prog 16 #[.pointer (some ⟨gb, 0, none⟩)] w fun e w' => e = .returned (.bool true) ∧ Chg w w' [] := by
  have hg := hG.gb
  obtain ⟨pa, ca, pb, cb, e1, e2, hrd⟩ := hG.read
  have HZ : Hid (∀ q, q < 30 → ¬ q = 0 → ¬ q = 1 → G q = .slice none 0 0) := hz
  have HRD : Hid (∀ j, j < Kn → ∃ lg mg x y, pa = some ⟨lg, 0, none⟩ ∧ pb = some ⟨mg, 0, none⟩ ∧ w.cell? ⟨lg, j, none⟩ = some x ∧ w.cell? ⟨mg, j, none⟩ = some y ∧ Rl w 1 x (N j) (F j) ∧ Rl w 1 y (N j) (F j)) := hrd
  have HN : Hid (∀ j, j < Kn → N j ≤ 140737488355328) := hN
  have HF : Hid (∀ j, j < Kn → ∃ f : Nat → Nat, F j = bR f ∧ ∀ i, i < N j → f i < 256) := hF
  have HE1 : Hid (G 0 = .slice pa Kn ca) := e1
  have HE2 : Hid (G 1 = .slice pb Kn cb) := e2
  have HG : Hid (Blk w gb (gvC G) 44) := hg
  clear hz hrd hN hF e1 e2 hG hg
  go_enter Try.func16, Try.ntmps16
  have cc : Chg w w [] := Chg.refl w []
  go_wp2_with fail
  go_loopw [3] (fun t wr => ∃ i : Nat, i ≤ Kn ∧ t = .int .i64 (i : Int) ∧ Chg w wr []) (fun t _ => ((Kn : Int) - intOf t).toNat)
  case atStart => exact ⟨0, Nat.zero_le _, rfl, cc⟩
  case round =>
    clear cc
    obtain ⟨i, hi, rfl, cc⟩ := hrel
    have c0 := ((HG.out.chg cc (by simp)).cell 0).trans (gvC_get G 0 (by decide))
    rw [HE1.out] at c0
    by_cases h8 : i < Kn
    · have hI : (i : Int) < (Kn : Int) := by omega
      have hI0 : (0 : Int) ≤ (i : Int) := by omega
      have HI1 : Hid (i + 1 ≤ Kn) := h8
      have HM : Hid (((Kn : Int) - intOf (.int .i64 ((i : Int) + 1))).toNat < ((Kn : Int) - intOf (.int .i64 (i : Int))).toNat) := by show ((Kn : Int) - intOf (.int .i64 ((i : Int) + 1))).toNat < ((Kn : Int) - intOf (.int .i64 (i : Int))).toNat; simp [intOf]; omega
      obtain ⟨lg, mg, x, y, rfl, rfl, cl, cm, rx, ry⟩ := HRD.out i h8
      obtain ⟨f, hf1, hf2⟩ := HF.out i h8
      have HNI : Hid (N i ≤ 140737488355328) := HN.out i h8
      have XL : Hid (Sl wr x (N i) f) := Rl.sl (hf1 ▸ rx.chg cc (Off.nil _)) hf2
      have YL : Hid (Sl wr y (N i) f) := Rl.sl (hf1 ▸ ry.chg cc (Off.nil _)) hf2
      have CL : Hid (wr.cell? ⟨lg, i, none⟩ = some x) := cell_chg2 cl cc
      have CM : Hid (wr.cell? ⟨mg, i, none⟩ = some y) := cell_chg2 cm cc
      have HGR : Hid (Blk wr gb (gvC G) 44) := HG.out.chg cc (by simp)
      clear cl cm rx ry hf1 hf2 h8 hi HRD HF HN
      go_wp2_with fail
      refine wp_region_held_drew (S := fun w' => Chg wr w' []) (by kernel_rfl) ((Chg.refl wr _).drew) (fun hHeld => ?_)
      refine take_val (v := ?_) 0 (some 27) rfl (by kernel_rfl) (by kernel_rfl) (by kernel_rfl) (fun _ _ _ h => h) rfl rfl (fun w hSw => ?_) hHeld ?_
      rotate_left
      · (go_simp; try with_reducible rfl)
      try simp only [Act.put, List.setIfInBounds_toArray, List.set_cons_zero, List.set_cons_succ]
      refine take_val (v := ?_) 1 (some 28) rfl (by kernel_rfl) (by kernel_rfl) (by kernel_rfl) (fun _ _ _ h => h) rfl rfl (fun w hSw => ?_) hHeld ?_
      rotate_left
      · (go_simp; try with_reducible rfl)
      try simp only [Act.put, List.setIfInBounds_toArray, List.set_cons_zero, List.set_cons_succ]
      refine take_val (v := ?_) 2 (some 29) rfl (by kernel_rfl) (by kernel_rfl) (by kernel_rfl) (fun _ _ _ h => h) rfl rfl (fun w hSw => ?_) hHeld ?_
      rotate_left
      · (go_simp; try with_reducible rfl)
      try simp only [Act.put, List.setIfInBounds_toArray, List.set_cons_zero, List.set_cons_succ]
      refine take_val (v := (Value.slice (some ⟨lg, 0, none⟩) Kn ca)) 3 (some 30) rfl (by kernel_rfl) (by kernel_rfl) (by kernel_rfl) (fun _ _ _ h => h) rfl rfl (fun w hSw => ?_) hHeld ?_
      · have cx := (HGR.out.chg hSw (by simp)).cell 0
        rw [gvC_get G 0 (by decide), HE1.out] at cx
        (go_simp; try with_reducible rfl)
      try simp only [Act.put, List.setIfInBounds_toArray, List.set_cons_zero, List.set_cons_succ]
      refine take_val (v := ?_) 4 (some 31) rfl (by kernel_rfl) (by kernel_rfl) (by kernel_rfl) (fun _ _ _ h => h) rfl rfl (fun w hSw => ?_) hHeld ?_
      rotate_left
      · (go_simp; try with_reducible rfl)
      try simp only [Act.put, List.setIfInBounds_toArray, List.set_cons_zero, List.set_cons_succ]
      refine take_val (v := ?_) 5 (some 32) rfl (by kernel_rfl) (by kernel_rfl) (by kernel_rfl) (fun _ _ _ h => h) rfl rfl (fun w hSw => ?_) hHeld ?_
      rotate_left
      · (go_simp; try with_reducible rfl)
      try simp only [Act.put, List.setIfInBounds_toArray, List.set_cons_zero, List.set_cons_succ]
      refine take_val (v := (x)) 6 (some 33) rfl (by kernel_rfl) (by kernel_rfl) (by kernel_rfl) (fun _ _ _ h => h) rfl rfl (fun w hSw => ?_) hHeld ?_
      · have cx := cell_chg2 CL.out hSw
        (go_simp; try with_reducible rfl)
      try simp only [Act.put, List.setIfInBounds_toArray, List.set_cons_zero, List.set_cons_succ]
      refine take_val (v := ?_) 7 (some 34) rfl (by kernel_rfl) (by kernel_rfl) (by kernel_rfl) (fun _ _ _ h => h) rfl rfl (fun w hSw => ?_) hHeld ?_
      rotate_left
      · (go_simp; try with_reducible rfl)
      try simp only [Act.put, List.setIfInBounds_toArray, List.set_cons_zero, List.set_cons_succ]
      refine take_val (v := ?_) 8 (some 35) rfl (by kernel_rfl) (by kernel_rfl) (by kernel_rfl) (fun _ _ _ h => h) rfl rfl (fun w hSw => ?_) hHeld ?_
      rotate_left
      · (go_simp; try with_reducible rfl)
      try simp only [Act.put, List.setIfInBounds_toArray, List.set_cons_zero, List.set_cons_succ]
      refine take_val (v := ?_) 9 (some 36) rfl (by kernel_rfl) (by kernel_rfl) (by kernel_rfl) (fun _ _ _ h => h) rfl rfl (fun w hSw => ?_) hHeld ?_
      rotate_left
      · (go_simp; try with_reducible rfl)
      try simp only [Act.put, List.setIfInBounds_toArray, List.set_cons_zero, List.set_cons_succ]
      refine take_val (v := (Value.slice (some ⟨mg, 0, none⟩) Kn cb)) 10 (some 37) rfl (by kernel_rfl) (by kernel_rfl) (by kernel_rfl) (fun _ _ _ h => h) rfl rfl (fun w hSw => ?_) hHeld ?_
      · have cx := (HGR.out.chg hSw (by simp)).cell 1
        rw [gvC_get G 1 (by decide), HE2.out] at cx
        (go_simp; try with_reducible rfl)
      try simp only [Act.put, List.setIfInBounds_toArray, List.set_cons_zero, List.set_cons_succ]
      refine take_val (v := ?_) 11 (some 38) rfl (by kernel_rfl) (by kernel_rfl) (by kernel_rfl) (fun _ _ _ h => h) rfl rfl (fun w hSw => ?_) hHeld ?_
      rotate_left
      · (go_simp; try with_reducible rfl)
      try simp only [Act.put, List.setIfInBounds_toArray, List.set_cons_zero, List.set_cons_succ]
      refine take_val (v := ?_) 12 (some 39) rfl (by kernel_rfl) (by kernel_rfl) (by kernel_rfl) (fun _ _ _ h => h) rfl rfl (fun w hSw => ?_) hHeld ?_
      rotate_left
      · (go_simp; try with_reducible rfl)
      try simp only [Act.put, List.setIfInBounds_toArray, List.set_cons_zero, List.set_cons_succ]
      refine take_val (v := (y)) 13 (some 40) rfl (by kernel_rfl) (by kernel_rfl) (by kernel_rfl) (fun _ _ _ h => h) rfl rfl (fun w hSw => ?_) hHeld ?_
      · have cx := cell_chg2 CM.out hSw
        (go_simp; try with_reducible rfl)
      try simp only [Act.put, List.setIfInBounds_toArray, List.set_cons_zero, List.set_cons_succ]
      refine wpAnyH_ready (rs := [14]) (by kernel_rfl) (by simp) ?_
      refine AllReadyH.cons (o := _) rfl (fun K hK => ?_) ?_
      ·
        go_simp
        refine (SameBytes_any x y (N i) f _ ((XL.out.chg hHeld (Off.nil _))) ((YL.out.chg hHeld (Off.nil _)))).mono ?_
        rintro e v7 ⟨rfl, k7⟩
        go_wp2_with fail
        refine hK.out _ _ (hHeld.trans1 k7) (fun hHeld => ?_)
        clear hK K
        try simp only [Act.put, List.setIfInBounds_toArray, List.set_cons_zero, List.set_cons_succ]
        refine take_val (v := ?_) 15 (some 42) rfl (by kernel_rfl) (by kernel_rfl) (by kernel_rfl) (fun _ _ _ h => h) rfl rfl (fun w hSw => ?_) hHeld ?_
        rotate_left
        · (go_simp; try with_reducible rfl)
        try simp only [Act.put, List.setIfInBounds_toArray, List.set_cons_zero, List.set_cons_succ]
        refine wpAnyH_done (by kernel_rfl) ?_ _
        go_wp2_with fail
        exact ⟨⟨i + 1, HI1.out, by go_num, cc.trans1 hHeld⟩, HM.out⟩
      exact AllReadyH.nil
    · have h9 : i = Kn := by omega
      subst h9
      have hI : ¬ (i : Int) < (i : Int) := by omega
      go_wp2_with fail
      go_loopw [4] (fun t wr => t = .int .i64 0 ∧ Chg w wr []) (fun _ _ => 0)
      case atStart => exact ⟨rfl, cc⟩
      case round =>
        clear cc c0
        obtain ⟨rfl, cc⟩ := hrel
        have c0 := ((HG.out.chg cc (by simp)).cell 2).trans (gvC_get G 2 (by decide))
        rw [HZ.out 2 (by decide) (by decide) (by decide)] at c0
        go_wp2_with fail
        go_loopw [5] (fun t wr => t = .int .i64 0 ∧ Chg w wr []) (fun _ _ => 0)
        case atStart => exact ⟨rfl, cc⟩
        case round =>
          clear cc c0
          obtain ⟨rfl, cc⟩ := hrel
          have c0 := ((HG.out.chg cc (by simp)).cell 4).trans (gvC_get G 4 (by decide))
          rw [HZ.out 4 (by decide) (by decide) (by decide)] at c0
          go_wp2_with fail
          go_loopw [6] (fun t wr => t = .int .i64 0 ∧ Chg w wr []) (fun _ _ => 0)
          case atStart => exact ⟨rfl, cc⟩
          case round =>
            clear cc c0
            obtain ⟨rfl, cc⟩ := hrel
            have c0 := ((HG.out.chg cc (by simp)).cell 6).trans (gvC_get G 6 (by decide))
            rw [HZ.out 6 (by decide) (by decide) (by decide)] at c0
            go_wp2_with fail
            go_loopw [7] (fun t wr => t = .int .i64 0 ∧ Chg w wr []) (fun _ _ => 0)
            case atStart => exact ⟨rfl, cc⟩
            case round =>
              clear cc c0
              obtain ⟨rfl, cc⟩ := hrel
              have c0 := ((HG.out.chg cc (by simp)).cell 8).trans (gvC_get G 8 (by decide))
              rw [HZ.out 8 (by decide) (by decide) (by decide)] at c0
              go_wp2_with fail
              go_loopw [8] (fun t wr => t = .int .i64 0 ∧ Chg w wr []) (fun _ _ => 0)
              case atStart => exact ⟨rfl, cc⟩
              case round =>
                clear cc c0
                obtain ⟨rfl, cc⟩ := hrel
                have c0 := ((HG.out.chg cc (by simp)).cell 10).trans (gvC_get G 10 (by decide))
                rw [HZ.out 10 (by decide) (by decide) (by decide)] at c0
                go_wp2_with fail
                go_loopw [9] (fun t wr => t = .int .i64 0 ∧ Chg w wr []) (fun _ _ => 0)
                case atStart => exact ⟨rfl, cc⟩
                case round =>
                  clear cc c0
                  obtain ⟨rfl, cc⟩ := hrel
                  have c0 := ((HG.out.chg cc (by simp)).cell 12).trans (gvC_get G 12 (by decide))
                  rw [HZ.out 12 (by decide) (by decide) (by decide)] at c0
                  go_wp2_with fail
                  go_loopw [10] (fun t wr => t = .int .i64 0 ∧ Chg w wr []) (fun _ _ => 0)
                  case atStart => exact ⟨rfl, cc⟩
                  case round =>
                    clear cc c0
                    obtain ⟨rfl, cc⟩ := hrel
                    have c0 := ((HG.out.chg cc (by simp)).cell 14).trans (gvC_get G 14 (by decide))
                    rw [HZ.out 14 (by decide) (by decide) (by decide)] at c0
                    go_wp2_with fail
                    go_loopw [11] (fun t wr => t = .int .i64 0 ∧ Chg w wr []) (fun _ _ => 0)
                    case atStart => exact ⟨rfl, cc⟩
                    case round =>
                      clear cc c0
                      obtain ⟨rfl, cc⟩ := hrel
                      have c0 := ((HG.out.chg cc (by simp)).cell 16).trans (gvC_get G 16 (by decide))
                      rw [HZ.out 16 (by decide) (by decide) (by decide)] at c0
                      go_wp2_with fail
                      go_loopw [12] (fun t wr => t = .int .i64 0 ∧ Chg w wr []) (fun _ _ => 0)
                      case atStart => exact ⟨rfl, cc⟩
                      case round =>
                        clear cc c0
                        obtain ⟨rfl, cc⟩ := hrel
                        have c0 := ((HG.out.chg cc (by simp)).cell 18).trans (gvC_get G 18 (by decide))
                        rw [HZ.out 18 (by decide) (by decide) (by decide)] at c0
                        go_wp2_with fail
                        go_loopw [13] (fun t wr => t = .int .i64 0 ∧ Chg w wr []) (fun _ _ => 0)
                        case atStart => exact ⟨rfl, cc⟩
                        case round =>
                          clear cc c0
                          obtain ⟨rfl, cc⟩ := hrel
                          have c0 := ((HG.out.chg cc (by simp)).cell 20).trans (gvC_get G 20 (by decide))
                          rw [HZ.out 20 (by decide) (by decide) (by decide)] at c0
                          go_wp2_with fail
                          go_loopw [14] (fun t wr => t = .int .i64 0 ∧ Chg w wr []) (fun _ _ => 0)
                          case atStart => exact ⟨rfl, cc⟩
                          case round =>
                            clear cc c0
                            obtain ⟨rfl, cc⟩ := hrel
                            have c0 := ((HG.out.chg cc (by simp)).cell 22).trans (gvC_get G 22 (by decide))
                            rw [HZ.out 22 (by decide) (by decide) (by decide)] at c0
                            go_wp2_with fail
                            go_loopw [15] (fun t wr => t = .int .i64 0 ∧ Chg w wr []) (fun _ _ => 0)
                            case atStart => exact ⟨rfl, cc⟩
                            case round =>
                              clear cc c0
                              obtain ⟨rfl, cc⟩ := hrel
                              have c0 := ((HG.out.chg cc (by simp)).cell 24).trans (gvC_get G 24 (by decide))
                              rw [HZ.out 24 (by decide) (by decide) (by decide)] at c0
                              go_wp2_with fail
                              go_loopw [16] (fun t wr => t = .int .i64 0 ∧ Chg w wr []) (fun _ _ => 0)
                              case atStart => exact ⟨rfl, cc⟩
                              case round =>
                                clear cc c0
                                obtain ⟨rfl, cc⟩ := hrel
                                have c0 := ((HG.out.chg cc (by simp)).cell 26).trans (gvC_get G 26 (by decide))
                                rw [HZ.out 26 (by decide) (by decide) (by decide)] at c0
                                go_wp2_with fail
                                go_loopw [17] (fun t wr => t = .int .i64 0 ∧ Chg w wr []) (fun _ _ => 0)
                                case atStart => exact ⟨rfl, cc⟩
                                case round =>
                                  clear cc c0
                                  obtain ⟨rfl, cc⟩ := hrel
                                  have c0 := ((HG.out.chg cc (by simp)).cell 28).trans (gvC_get G 28 (by decide))
                                  rw [HZ.out 28 (by decide) (by decide) (by decide)] at c0
                                  go_wp2_with fail
                                  go_ret
                                  exact ⟨rfl, cc⟩
/-- A Given that has nothing. -/
def gNil : Nat → Value := fun _ => .slice none 0 0
theorem zGiven : #[Value.slice none 0 0, .slice none 0 0, .slice none 0 0, .slice none 0 0, .slice none 0 0, .slice none 0 0, .slice none 0 0, .slice none 0 0, .slice none 0 0, .slice none 0 0, .slice none 0 0, .slice none 0 0, .slice none 0 0, .slice none 0 0, .slice none 0 0, .slice none 0 0, .slice none 0 0, .slice none 0 0, .slice none 0 0, .slice none 0 0, .slice none 0 0, .slice none 0 0, .slice none 0 0, .slice none 0 0, .slice none 0 0, .slice none 0 0, .slice none 0 0, .slice none 0 0, .slice none 0 0, .slice none 0 0] = gvC gNil := by kernel_rfl
theorem Gv.none {w : World} {gb base : Nat} {p : Nat} {TG TE T : TypeId} {s : Nat} (h : Blk w gb (gvC gNil) TG) (N : Nat → Nat) (F : Nat → Nat → List Value) : Gv w gb base gNil p TG TE T s 0 N F :=
  ⟨h, [], [], World.ownsRow_nil _ _ _ _, World.ownsRow_nil _ _ _ _, fun x hx => by simp [ob, gNil, Value.ownBlock] at hx, fun j hj => by omega⟩
theorem Gv.ge {w : World} {gb base : Nat} {G : Nat → Value} {p : Nat} {TG TE T : TypeId} {s Kn : Nat} {N : Nat → Nat} {F : Nat → Nat → List Value} (h : Gv w gb base G p TG TE T s Kn N F) (hb : base ≤ gb) : ∀ x, x ∈ gch gb G p → base ≤ x := by
  obtain ⟨vs, us, l1, l2, _⟩ := h.lists
  intro x hx
  rcases List.mem_cons.1 hx with e | hx
  · omega
  · rcases List.mem_append.1 hx with hx | hx
    · exact (l1.lt x (by unfold ob at hx; simpa using hx)).1
    · exact (l2.lt x (by unfold ob at hx; simpa using hx)).1
theorem zeroGiven : (Try.prog.info? 44).bind (·.zero) = some (.agg (gvC gNil)) := by kernel_rfl
/-- A Given that answered K copies. -/
structure GS (w wr : World) (gb K : Nat) : Prop where
  gv : ∃ G N F, Gv wr gb gb G 0 44 27 5 1 K N F ∧ (∀ q, q < 30 → ¬ q = 0 → ¬ q = 1 → G q = .slice none 0 0) ∧ (∀ j, j < K → N j ≤ 140737488355328) ∧ (∀ j, j < K → ∃ f : Nat → Nat, F j = bR f ∧ ∀ i, i < N j → f i < 256)
  wg : w.heap.size ≤ gb
  cc : Chg w wr []
theorem GS.begin {w wr : World} {gb : Nat} (h : Blk wr gb (gvC gNil) 44) (hw : w.heap.size ≤ gb) (c : Chg w wr []) : GS w wr gb 0 :=
  ⟨⟨gNil, fun _ => 0, fun _ _ => [], Gv.none h _ _, fun _ _ _ _ => rfl, fun j hj => by omega, fun j hj => by omega⟩, hw, c⟩
theorem GS.chg {w wr wr' : World} {gb K : Nat} (h : GS w wr gb K) (c : Chg wr wr' []) : GS w wr' gb K := by
  obtain ⟨G, N, F, g, q1, q2, q3⟩ := h.gv
  exact ⟨⟨G, N, F, g.chg c, q1, q2, q3⟩, h.wg, h.cc.trans1 c⟩
/-- What a call of Bytes turns: no block of other kinds than the Given's own. -/
def GQ (wr w1 : World) (gb : Nat) : Prop := ∃ l, Chg wr w1 l ∧ (∀ x, x ∈ l → gb ≤ x) ∧ ∀ z C T, Blk wr z C T → ¬ T = 44 → ¬ T = 27 → ¬ z ∈ l
theorem GQ.blk {wr w1 : World} {gb : Nat} (h : GQ wr w1 gb) {z : Nat} {C : Array Value} {T : TypeId} (hz : Blk wr z C T) (h1 : ¬ T = 44) (h2 : ¬ T = 27) : Blk w1 z C T := by
  obtain ⟨l, c, _, f⟩ := h
  exact hz.chg c (f z C T hz h1 h2)
theorem GQ.size {wr w1 : World} {gb : Nat} (h : GQ wr w1 gb) : wr.heap.size ≤ w1.heap.size := by obtain ⟨l, c, _⟩ := h; exact c.size
set_option maxHeartbeats 4000000 in
theorem GS.bytes {w wr : World} {gb K : Nat} (h : GS w wr gb K) (hK : K ≤ 3000000) {v : Value} {n : Nat} {f : Nat → Nat} (hn : n ≤ 140737488355325) (hv : Sz wr v n f) :
    Calls Try.prog 9 #[.pointer (some ⟨gb, 0, none⟩), v] wr fun e w1 => ∃ o, e = .returned (.slice (some ⟨o, 0, none⟩) n (n + 3)) ∧ wr.heap.size ≤ o ∧ GS w w1 gb (K + 1) ∧ (∃ C, Blk w1 o C 5) ∧ Sz w1 (.slice (some ⟨o, 0, none⟩) n (n + 3)) n f ∧ GQ wr w1 gb := by
  obtain ⟨G, N, F, g, q1, q2, q3⟩ := h.gv
  have hf := hv.bd
  have hge := g.ge (Nat.le_refl _)
  refine (GivenBytes_kz gb n gb K v f G N F wr (by omega) hK (Nat.le_of_lt g.gb.lt) hv g).mono ?_
  rintro e w1 ⟨r, rfl, o, la, lb, rfl, ho, c1, bo, G1⟩
  have hoff : ∀ z C T, Blk wr z C T → ¬ T = 44 → ¬ T = 27 → ¬ z ∈ gch gb G 0 := fun z C T hz h1 h2 => g.off hz h1 h2
  refine ⟨o, rfl, ho, ⟨⟨_, _, _, G1, fun q h0 h1 h2 => by rw [upV_other _ _ _ _ h2, upV_other _ _ _ _ h1]; exact q1 q h0 h1 h2, fun j hj => ?_, fun j hj => ?_⟩, h.wg, h.cc.trans c1 (fun x hx => Or.inr (Nat.le_trans h.wg (hge x hx)))⟩, ⟨_, bo⟩, ⟨_, _, rfl, by omega, by omega, fun _ => ⟨o, 0, rfl, bo.lt, hf, fun j hj => ?_⟩⟩, ⟨_, c1, hge, hoff⟩⟩
  · show (if j = K then n + 3 else N j) ≤ _
    by_cases e : j = K
    · rw [if_pos e]; omega
    · rw [if_neg e]; exact q2 j (by omega)
  · by_cases e : j = K
    · rw [if_pos e]
      exact ⟨_, rfl, fun q _ => gvf_lt hf q⟩
    · rw [if_neg e, if_neg e]
      exact q3 j (by omega)
  · rw [Nat.zero_add, bo.cell, ← yC_bR, yC_get _ _ _ (by omega)]
    unfold gvf
    rw [if_pos hj]
theorem GS.intact {w wr : World} {gb K : Nat} (h : GS w wr gb K) (hK : K ≤ 3000000) : Calls Try.prog 16 #[.pointer (some ⟨gb, 0, none⟩)] wr fun e w' => e = .returned (.bool true) ∧ Chg wr w' [] := by
  obtain ⟨G, N, F, g, q1, q2, q3⟩ := h.gv
  exact Intact_bz gb gb K G N F wr hK g q1 q2 q3
end Go.Proofs.Ytachilkhbfpahaa
