/- rimeref03.More, of whatever bytes; the tail's block is new. (*Given).Bytes of an empty slice that points anywhere. -/
import Derived.Test.YtjcgjhncdaplcaaDoorH26
import Derived.Test.YtjcgjhncdaplcaaDoorWrE
import Derived.Test.YtjcgjhncdaplcaaDoorGivE
set_option linter.unusedVariables false
set_option linter.unusedSimpArgs false
set_option linter.unnecessarySimpa false
namespace Go.Proofs.YtjcgjhncdaplcaaDoor
open Go.RowKit

theorem Se.frm2 {w : World} {v : Value} {n : Nat} {f : Nat → Nat} (h : Se w v n f) : ∃ p c, v = .slice p n c := by
  rcases h with (⟨rfl, rfl⟩ | ⟨g, o, cap, rfl, _⟩) | ⟨rfl, a, rfl⟩
  · exact ⟨none, 0, rfl⟩
  · exact ⟨_, _, rfl⟩
  · exact ⟨_, _, rfl⟩
theorem Se.lt256 {w : World} {v : Value} {n : Nat} {f : Nat → Nat} (h : Se w v n f) : ∀ i, i < n → f i < 256 := by
  rcases h with h | ⟨rfl, _⟩
  · exact sl_lt h
  · intro i hi; omega
set_option maxHeartbeats 8000000 in
set_option maxRecDepth 100000 in
theorem GivenBytes_1e (gb n : Nat) (v : Value) (f : Nat → Nat) (rest : Array Value) (w : World) (hn : n ≤ 140737488355328) (hv : Se w v n f) (hg : Blk w gb (#[.slice none 0 0, .slice none 0 0] ++ rest) 39) :
    Calls Tryd.prog 9 #[.pointer (some ⟨gb, 0, none⟩), v] w fun e w' => ∃ r, e = .returned r ∧ GP w w' gb n (n + 3) f rest r := by
  have hlen : ∃ p c, v = .slice p n c := by
    exact hv.frm2
  obtain ⟨vp, vc, rfl⟩ := hlen
  have hfl := hv.lt256
  have gbl := hg.lt
  obtain ⟨m, hm⟩ : ∃ m, n + 3 = m := ⟨_, rfl⟩
  have HM : Hid (n + 3 = m) := hm
  have e1 : IntKind.i64.wrap ((n : Int) + 3) = (m : Int) := by rw [IntKind.wrap_i64]; omega
  have hmk := make_yi m (by omega)
  have B0 := Blk.new w (yC m fun _ => 0) 5
  have B1 : Blk (w.alloc (.cells (yC m fun _ => 0) 5)) w.heap.size (yC m (gv1 0)) 5 := B0.to (yC_eq fun j _ => (if_neg (by omega)).symm)
  have C1 := (Chg.refl w []).alloc (.cells (yC m fun _ => 0) 5)
  have hnm : n < m := by omega
  have hmb : m ≤ 140737488355331 := by omega
  rw [hm]
  clear hm B0 hn
  go_enter Tryd.func9, Tryd.ntmps9
  go_wp2_with fail
  clear hmk
  go_loopw [6] (fun t wr => ∃ i : Nat, i ≤ m ∧ t = .int .i64 (i : Int) ∧ Blk wr w.heap.size (yC m (gv1 i)) 5 ∧ Chg w wr []) (fun t _ => ((m : Int) - intOf t).toNat)
  case atStart => exact ⟨0, by omega, rfl, B1, C1⟩
  case round =>
    clear B1 C1
    obtain ⟨i, hi, rfl, b0, c0⟩ := hrel
    by_cases h8 : i < m
    · have hI : (i : Int) < (m : Int) := by omega
      have e2 : IntKind.i64.wrap ((i : Int) + 1) = (i : Int) + 1 := by rw [IntKind.wrap_i64]; omega
      have ck := (b0.cell i).trans (yC_get m _ i h8)
      have fk := b0.frozen i
      have b1 := (b0.setCell i (.int .u8 ((mkb i : Nat) : Int))).to (by rw [yC_set, gv1_step])
      have c1 := c0.setNew (Nat.le_refl _) i (.int .u8 ((mkb i : Nat) : Int))
      go_wp2_with fail
      refine (markBytes_s i (by omega) _).mono ?_
      rintro e v1 ⟨rfl, rfl⟩
      go_wp2_with fail
      exact ⟨⟨i + 1, by omega, by go_num, b1, c1⟩, by simp [intOf]; omega⟩
    · have h9 : i = m := by omega
      subst h9
      have hI : ¬ (i : Int) < (i : Int) := by omega
      go_wp2_with fail
      have B2 : Blk wr w.heap.size (yC i (gv2 f 0)) 5 := b0.to (yC_eq fun j hj => by unfold gv1 gv2; rw [if_pos hj, if_neg (by omega)])
      go_loopw [7] (fun t wr => ∃ k : Nat, k ≤ n ∧ t = .int .i64 (k : Int) ∧ Blk wr w.heap.size (yC i (gv2 f k)) 5 ∧ Chg w wr []) (fun t _ => ((n : Int) - intOf t).toNat)
      case atStart => exact ⟨0, by omega, rfl, B2, c0⟩
      case round =>
        clear B2 c0 b0
        obtain ⟨k, hk, rfl, b0, c0⟩ := hrel
        by_cases h8 : k < n
        · have hI1 : (k : Int) < (n : Int) := by omega
          have hI2 : (k : Int) < (i : Int) := by omega
          have e2 : IntKind.i64.wrap ((k : Int) + 1) = (k : Int) + 1 := by rw [IntKind.wrap_i64]; omega
          have ck := (b0.cell k).trans (yC_get i _ k (by omega))
          have fk := b0.frozen k
          have b1 := (b0.setCell k (.int .u8 ((f k : Nat) : Int))).to (by rw [yC_set, gv2_step])
          have c1 := c0.setNew (Nat.le_refl _) k (.int .u8 ((f k : Nat) : Int))
          have hvc := hv.chg c0
          rcases hvc with (⟨h0, _⟩ | ⟨g, o, cap, he, _, _, hb⟩) | ⟨h0, _⟩
          · omega
          rotate_left
          · omega
          · simp only [Value.slice.injEq] at he
            obtain ⟨rfl, _, rfl⟩ := he
            have cl := hb.cell k h8
            go_wp2_with fail
            exact ⟨⟨k + 1, by omega, by go_num, b1, c1⟩, by simp [intOf]; omega⟩
        · have h9 : k = n := by omega
          subst h9
          have hI1 : ¬ (k : Int) < (k : Int) := by omega
          obtain ⟨y, hy⟩ : ∃ y, w.heap.size = y := ⟨_, rfl⟩
          have HY : Hid (w.heap.size = y) := hy
          have BO : Blk wr y (yC i (gvf f k)) 5 := hy ▸ b0
          rw [hy] at gbl
          rw [hy]
          clear hy b0 hv
          have ylt := BO.lt
          have wsz := c0.size
          have hg1 := hg.chg c0 (by simp)
          have cg0 := hg1.cell 0
          rw [Array.getElem?_append_left (by simp)] at cg0
          simp at cg0
          have hi0 : 0 < i := by omega
          obtain ⟨inf, hinf, hz, hs1, hs2⟩ := listRow
          have AL := Blk.new wr #[.slice (some ⟨y, 0, none⟩) i i] 22
          have hnw : ∀ j u, ([.slice (some ⟨y, 0, none⟩) i i] : List Value)[j]? = some u → (wr.alloc (.cells #[.slice (some ⟨y, 0, none⟩) i i] 22)).cell? ((⟨wr.heap.size, 0, none⟩ : Addr).add j) = some u := by
            intro j u hj
            refine add_cell ?_
            rw [Nat.zero_add, AL.cell]
            simpa using hj
          have HNW : Hid (∀ j u, ([.slice (some ⟨y, 0, none⟩) i i] : List Value)[j]? = some u → (wr.alloc (.cells #[.slice (some ⟨y, 0, none⟩) i i] 22)).cell? ((⟨wr.heap.size, 0, none⟩ : Addr).add j) = some u) := hnw
          clear hnw AL
          go_wp2_with (refine wpList_append_own_wide _ rfl (.tmp 40) (.tmp 42) 23 rfl y 22 inf (.slice none 0 0) 1 24 Tryd.underlying23 hinf hz hs1 hs2 rfl (by omega) (.slice none 0 0) 0 [] rfl (World.ownsRow_nil _ _ _ _) ⟨wr.heap.size, 0, none⟩ 1 1 [.slice (some ⟨y, 0, none⟩) i i] rfl rfl HNW.out (by simp [Value.oneCell']) (by simp [maxLen]) (by omega) (by have := HY.out; simp; omega) ?_
                       intro la w1 O1 G1 _
                       have LA : One w1 y la (.slice (some ⟨y, 0, none⟩) i i) := O1
                       replace G1 : Chg (wr.alloc (.cells #[.slice (some ⟨y, 0, none⟩) i i] 22)) w1 [] := Chg.grown G1
                       have GB0 := (hg1.alloc (.cells #[.slice (some ⟨y, 0, none⟩) i i] 22)).chg G1 (by simp)
                       have cgb := GB0.cell 0
                       have fgb := GB0.frozen 0
                       rw [Array.getElem?_append_left (by simp)] at cgb
                       simp at cgb
                       obtain ⟨lg, lc, rfl, hlg1, hlg2, hlg3⟩ := LA.form)
          have GB := (GB0.setCell 0 (.slice (some ⟨lg, 0, none⟩) 1 lc)).to (by rw [Array.setIfInBounds_append_left (by simp)])
          simp only [List.setIfInBounds_toArray, List.set_cons_zero] at GB
          have BO1 := ((BO.alloc (.cells #[.slice (some ⟨y, 0, none⟩) i i] 22)).chg G1 (by simp)).setOther (show ¬ y = gb by omega) 0 (.slice (some ⟨lg, 0, none⟩) 1 lc)
          have LA1 := LA.chg ((Chg.refl w1 [gb]).setIn (k := gb) (by simp) 0 (.slice (some ⟨lg, 0, none⟩) 1 lc)) (by simp; omega)
          have CV := (((c0.wide (l := [gb])).alloc (.cells #[.slice (some ⟨y, 0, none⟩) i i] 22)).trans1 G1.wide).setIn (k := gb) (by simp) 0 (.slice (some ⟨lg, 0, none⟩) 1 lc)
          have ywr : y ≤ (w1.setCell ⟨gb, 0, none⟩ (.slice (some ⟨lg, 0, none⟩) 1 lc)).heap.size := Nat.le_of_lt BO1.lt
          clear cgb fgb GB0 LA O1 G1 hg1 cg0 BO c0 HNW hlg3
          generalize w1.setCell ⟨gb, 0, none⟩ (.slice (some ⟨lg, 0, none⟩) 1 lc) = V at *
          clear hlg2
          have ywr0 : y ≤ V.heap.size := ywr
          refine wp_region_held_drew (S := fun w' => Chg V w' [gb]) (by kernel_rfl) ((Chg.refl V _).drew) (fun hHeld => ?_)
          replace GB := GB.drew
          replace BO1 := BO1.drew
          replace LA1 := LA1.chg ((Chg.refl V []).drew) (by simp)
          refine take_val (v := ?_) 0 (some 46) rfl (by kernel_rfl) (by kernel_rfl) (by kernel_rfl) (fun _ _ _ h => h) rfl rfl (fun w hSw => ?_) hHeld ?_
          rotate_left
          · (go_simp; try with_reducible rfl)
          try simp only [Act.put, List.setIfInBounds_toArray, List.set_cons_zero, List.set_cons_succ]
          refine take_val (v := ?_) 1 (some 47) rfl (by kernel_rfl) (by kernel_rfl) (by kernel_rfl) (fun _ _ _ h => h) rfl rfl (fun w hSw => ?_) hHeld ?_
          rotate_left
          · (go_simp; try with_reducible rfl)
          try simp only [Act.put, List.setIfInBounds_toArray, List.set_cons_zero, List.set_cons_succ]
          refine take_val (v := ?_) 2 (some 48) rfl (by kernel_rfl) (by kernel_rfl) (by kernel_rfl) (fun _ _ _ h => h) rfl rfl (fun w hSw => ?_) hHeld ?_
          rotate_left
          · (go_simp; try with_reducible rfl)
          try simp only [Act.put, List.setIfInBounds_toArray, List.set_cons_zero, List.set_cons_succ]
          refine take_val (v := ?_) 3 (some 49) rfl (by kernel_rfl) (by kernel_rfl) (by kernel_rfl) (fun _ _ _ h => h) rfl rfl (fun w hSw => ?_) hHeld ?_
          rotate_left
          · (go_simp; try with_reducible rfl)
          try simp only [Act.put, List.setIfInBounds_toArray, List.set_cons_zero, List.set_cons_succ]
          refine take_val (v := ?_) 5 (some 51) rfl (by kernel_rfl) (by kernel_rfl) (by kernel_rfl) (fun _ _ _ h => h) rfl rfl (fun w hSw => ?_) hHeld ?_
          rotate_left
          · (go_simp; try with_reducible rfl)
          try simp only [Act.put, List.setIfInBounds_toArray, List.set_cons_zero, List.set_cons_succ]
          refine wpAnyH_ready (rs := [4, 6]) (by kernel_rfl) (by simp) ?_
          refine AllReadyH.cons (o := _) rfl (fun K hK => ?_) ?_
          ·
            have cg := GB.cell 1
            rw [Array.getElem?_append_left (by simp)] at cg
            simp at cg
            rw [if_pos (by rfl)]
            go_simp
            refine hK.out _ _ (hHeld) (fun hHeld => ?_)
            clear hK K
            try simp only [Act.put, List.setIfInBounds_toArray, List.set_cons_zero, List.set_cons_succ]
            refine wpAnyH_ready (rs := [6]) (by kernel_rfl) (by simp) ?_
            refine AllReadyH.cons (o := _) rfl (fun K hK => ?_) ?_
            ·
              go_simp
              refine (CopyBytes_s (.slice (some ⟨y, 0, none⟩) i i) i (gvf f k) _ (by omega) (Or.inr ⟨y, 0, i, rfl, Nat.le_refl _, by omega, BO1.lt, fun j _ => gvf_lt hfl j, fun j hj => by rw [Nat.zero_add, BO1.cell, yC_get _ _ _ hj]⟩)).mono ?_
              rintro e v7 ⟨x, rfl, OX, k7⟩
              obtain ⟨xg, xc, rfl, hxg, hxc, hxm, XB⟩ := OX.form hi0
              go_wp2_with fail
              refine hK.out _ _ (hHeld.trans1 k7.wide) (fun hHeld => ?_)
              clear hK K
              try simp only [Act.put, List.setIfInBounds_toArray, List.set_cons_zero, List.set_cons_succ]
              have v7sz := k7.size
              replace GB := GB.chg k7 (by simp)
              replace BO1 := BO1.chg k7 (by simp)
              replace LA1 := LA1.chg k7 (by simp)
              replace ywr : y ≤ v7.heap.size := Nat.le_trans ywr k7.size
              clear k7
              refine wpAnyH_ready (rs := [7]) (by kernel_rfl) (by simp) ?_
              refine AllReadyH.cons (o := _) rfl (fun K hK => ?_) ?_
              ·
                rw [if_pos (by rfl)]
                go_simp
                refine hK.out _ _ (hHeld.alloc _) (fun hHeld => ?_)
                clear hK K
                try simp only [Act.put, List.setIfInBounds_toArray, List.set_cons_zero, List.set_cons_succ]
                have AL := Blk.new v7 #[.slice (some ⟨xg, 0, none⟩) i xc] 22
                replace GB := GB.alloc (.cells #[.slice (some ⟨xg, 0, none⟩) i xc] 22)
                replace BO1 := BO1.alloc (.cells #[.slice (some ⟨xg, 0, none⟩) i xc] 22)
                replace LA1 := LA1.chg ((Chg.refl v7 []).alloc (.cells #[.slice (some ⟨xg, 0, none⟩) i xc] 22)) (by simp)
                replace OX := OX.chg ((Chg.refl v7 []).alloc (.cells #[.slice (some ⟨xg, 0, none⟩) i xc] 22)) (by simp)
                refine wpAnyH_ready (rs := [8]) (by kernel_rfl) (by simp) ?_
                refine AllReadyH.cons (o := _) rfl (fun K hK => ?_) ?_
                ·
                  rw [if_pos (by rfl)]
                  refine wp_append_own_wide _ (.tmp 50) (.tmp 53) 23 rfl y 22 inf (.slice none 0 0) 1 24 Tryd.underlying23 hinf hz hs1 hs2 rfl (by omega) (.slice none 0 0) 0 [] rfl (World.ownsRow_nil _ _ _ _) ⟨v7.heap.size, 0, none⟩ 1 1 [.slice (some ⟨xg, 0, none⟩) i xc] rfl rfl (fun j u hj => add_cell (by rw [Nat.zero_add, AL.cell]; simpa using hj)) (by simp [Value.oneCell']) (by simp [maxLen]) (by omega) (by simp; omega) ?_
                  intro lb w8 O8 G8 _
                  have LB : One w8 y lb (.slice (some ⟨xg, 0, none⟩) i xc) := O8
                  replace G8 : Chg (v7.alloc (.cells #[.slice (some ⟨xg, 0, none⟩) i xc] 22)) w8 [] := Chg.grown G8
                  obtain ⟨mg, mc, rfl, hmg1, hmg2, hmg3⟩ := LB.form
                  refine hK.out _ _ (hHeld.trans1 G8.wide) (fun hHeld => ?_)
                  clear hK K
                  try simp only [Act.put, List.setIfInBounds_toArray, List.set_cons_zero, List.set_cons_succ]
                  replace GB := GB.chg G8 (by simp)
                  replace BO1 := BO1.chg G8 (by simp)
                  replace LA1 := LA1.chg G8 (by simp)
                  replace OX := OX.chg G8 (by simp)
                  clear G8 O8 AL
                  refine take_val (v := ?_) 9 (some 55) rfl (by kernel_rfl) (by kernel_rfl) (by kernel_rfl) (fun _ _ _ h => h) rfl rfl (fun w hSw => ?_) hHeld ?_
                  rotate_left
                  · (go_simp; try with_reducible rfl)
                  try simp only [Act.put, List.setIfInBounds_toArray, List.set_cons_zero, List.set_cons_succ]
                  refine take_val (v := ?_) 10 (some 56) rfl (by kernel_rfl) (by kernel_rfl) (by kernel_rfl) (fun _ _ _ h => h) rfl rfl (fun w hSw => ?_) hHeld ?_
                  rotate_left
                  · (go_simp; try with_reducible rfl)
                  try simp only [Act.put, List.setIfInBounds_toArray, List.set_cons_zero, List.set_cons_succ]
                  refine wpAnyH_ready (rs := [11]) (by kernel_rfl) (by simp) ?_
                  refine AllReadyH.cons (o := _) rfl (fun K hK => ?_) ?_
                  ·
                    have cg := GB.cell 1
                    have fg := GB.frozen 1
                    rw [Array.getElem?_append_left (by simp)] at cg
                    simp at cg
                    rw [if_pos (by rfl)]
                    go_simp
                    refine hK.out _ _ (hHeld.setIn (by simp) _ _) (fun hHeld => ?_)
                    clear hK K
                    try simp only [Act.put, List.setIfInBounds_toArray, List.set_cons_zero, List.set_cons_succ]
                    refine wpAnyH_done (by kernel_rfl) ?_ _
                    have GB2 := (GB.setCell 1 (.slice (some ⟨mg, 0, none⟩) 1 mc)).to (by rw [Array.setIfInBounds_append_left (by simp)])
                    simp only [List.setIfInBounds_toArray, List.set_cons_zero, List.set_cons_succ] at GB2
                    have SC := (Chg.refl w8 [gb]).setIn (k := gb) (by simp) 1 (.slice (some ⟨mg, 0, none⟩) 1 mc)
                    have BO2 := BO1.chg SC (by simp; omega)
                    have LA2 := LA1.chg SC (by simp; omega)
                    have LB2 := LB.chg SC (by simp; omega)
                    have hxg2 : V.heap.size ≤ xg := hxg
                    have OX2 := (OX.chg SC (by simp [ob, Value.ownBlock]; omega)).base (base' := y) ywr0
                    have C9 := CV.trans1 hHeld
                    clear hHeld SC
                    have hki : (k : Int) ≤ (i : Int) := by omega
                    go_wp2_with fail
                    go_ret
                    have hY := HY.out
                    subst hY
                    exact ⟨_, rfl, w.heap.size, _, _, _, rfl, C9, Nat.le_refl _, BO2, OX2, LA2, LB2, GB2⟩
                  exact AllReadyH.nil
                exact AllReadyH.nil
              exact AllReadyH.nil
            exact AllReadyH.nil
          refine AllReadyH.cons (o := _) rfl (fun K hK => ?_) ?_
          ·
            go_simp
            refine (CopyBytes_s (.slice (some ⟨y, 0, none⟩) i i) i (gvf f k) _ (by omega) (Or.inr ⟨y, 0, i, rfl, Nat.le_refl _, by omega, BO1.lt, fun j _ => gvf_lt hfl j, fun j hj => by rw [Nat.zero_add, BO1.cell, yC_get _ _ _ hj]⟩)).mono ?_
            rintro e v7 ⟨x, rfl, OX, k7⟩
            obtain ⟨xg, xc, rfl, hxg, hxc, hxm, XB⟩ := OX.form hi0
            go_wp2_with fail
            refine hK.out _ _ (hHeld.trans1 k7.wide) (fun hHeld => ?_)
            clear hK K
            try simp only [Act.put, List.setIfInBounds_toArray, List.set_cons_zero, List.set_cons_succ]
            have v7sz := k7.size
            replace GB := GB.chg k7 (by simp)
            replace BO1 := BO1.chg k7 (by simp)
            replace LA1 := LA1.chg k7 (by simp)
            replace ywr : y ≤ v7.heap.size := Nat.le_trans ywr k7.size
            clear k7
            refine wpAnyH_ready (rs := [4, 7]) (by kernel_rfl) (by simp) ?_
            refine AllReadyH.cons (o := _) rfl (fun K hK => ?_) ?_
            ·
              have cg := GB.cell 1
              rw [Array.getElem?_append_left (by simp)] at cg
              simp at cg
              rw [if_pos (by rfl)]
              go_simp
              refine hK.out _ _ (hHeld) (fun hHeld => ?_)
              clear hK K
              try simp only [Act.put, List.setIfInBounds_toArray, List.set_cons_zero, List.set_cons_succ]
              refine wpAnyH_ready (rs := [7]) (by kernel_rfl) (by simp) ?_
              refine AllReadyH.cons (o := _) rfl (fun K hK => ?_) ?_
              ·
                rw [if_pos (by rfl)]
                go_simp
                refine hK.out _ _ (hHeld.alloc _) (fun hHeld => ?_)
                clear hK K
                try simp only [Act.put, List.setIfInBounds_toArray, List.set_cons_zero, List.set_cons_succ]
                have AL := Blk.new v7 #[.slice (some ⟨xg, 0, none⟩) i xc] 22
                replace GB := GB.alloc (.cells #[.slice (some ⟨xg, 0, none⟩) i xc] 22)
                replace BO1 := BO1.alloc (.cells #[.slice (some ⟨xg, 0, none⟩) i xc] 22)
                replace LA1 := LA1.chg ((Chg.refl v7 []).alloc (.cells #[.slice (some ⟨xg, 0, none⟩) i xc] 22)) (by simp)
                replace OX := OX.chg ((Chg.refl v7 []).alloc (.cells #[.slice (some ⟨xg, 0, none⟩) i xc] 22)) (by simp)
                refine wpAnyH_ready (rs := [8]) (by kernel_rfl) (by simp) ?_
                refine AllReadyH.cons (o := _) rfl (fun K hK => ?_) ?_
                ·
                  rw [if_pos (by rfl)]
                  refine wp_append_own_wide _ (.tmp 50) (.tmp 53) 23 rfl y 22 inf (.slice none 0 0) 1 24 Tryd.underlying23 hinf hz hs1 hs2 rfl (by omega) (.slice none 0 0) 0 [] rfl (World.ownsRow_nil _ _ _ _) ⟨v7.heap.size, 0, none⟩ 1 1 [.slice (some ⟨xg, 0, none⟩) i xc] rfl rfl (fun j u hj => add_cell (by rw [Nat.zero_add, AL.cell]; simpa using hj)) (by simp [Value.oneCell']) (by simp [maxLen]) (by omega) (by simp; omega) ?_
                  intro lb w8 O8 G8 _
                  have LB : One w8 y lb (.slice (some ⟨xg, 0, none⟩) i xc) := O8
                  replace G8 : Chg (v7.alloc (.cells #[.slice (some ⟨xg, 0, none⟩) i xc] 22)) w8 [] := Chg.grown G8
                  obtain ⟨mg, mc, rfl, hmg1, hmg2, hmg3⟩ := LB.form
                  refine hK.out _ _ (hHeld.trans1 G8.wide) (fun hHeld => ?_)
                  clear hK K
                  try simp only [Act.put, List.setIfInBounds_toArray, List.set_cons_zero, List.set_cons_succ]
                  replace GB := GB.chg G8 (by simp)
                  replace BO1 := BO1.chg G8 (by simp)
                  replace LA1 := LA1.chg G8 (by simp)
                  replace OX := OX.chg G8 (by simp)
                  clear G8 O8 AL
                  refine take_val (v := ?_) 9 (some 55) rfl (by kernel_rfl) (by kernel_rfl) (by kernel_rfl) (fun _ _ _ h => h) rfl rfl (fun w hSw => ?_) hHeld ?_
                  rotate_left
                  · (go_simp; try with_reducible rfl)
                  try simp only [Act.put, List.setIfInBounds_toArray, List.set_cons_zero, List.set_cons_succ]
                  refine take_val (v := ?_) 10 (some 56) rfl (by kernel_rfl) (by kernel_rfl) (by kernel_rfl) (fun _ _ _ h => h) rfl rfl (fun w hSw => ?_) hHeld ?_
                  rotate_left
                  · (go_simp; try with_reducible rfl)
                  try simp only [Act.put, List.setIfInBounds_toArray, List.set_cons_zero, List.set_cons_succ]
                  refine wpAnyH_ready (rs := [11]) (by kernel_rfl) (by simp) ?_
                  refine AllReadyH.cons (o := _) rfl (fun K hK => ?_) ?_
                  ·
                    have cg := GB.cell 1
                    have fg := GB.frozen 1
                    rw [Array.getElem?_append_left (by simp)] at cg
                    simp at cg
                    rw [if_pos (by rfl)]
                    go_simp
                    refine hK.out _ _ (hHeld.setIn (by simp) _ _) (fun hHeld => ?_)
                    clear hK K
                    try simp only [Act.put, List.setIfInBounds_toArray, List.set_cons_zero, List.set_cons_succ]
                    refine wpAnyH_done (by kernel_rfl) ?_ _
                    have GB2 := (GB.setCell 1 (.slice (some ⟨mg, 0, none⟩) 1 mc)).to (by rw [Array.setIfInBounds_append_left (by simp)])
                    simp only [List.setIfInBounds_toArray, List.set_cons_zero, List.set_cons_succ] at GB2
                    have SC := (Chg.refl w8 [gb]).setIn (k := gb) (by simp) 1 (.slice (some ⟨mg, 0, none⟩) 1 mc)
                    have BO2 := BO1.chg SC (by simp; omega)
                    have LA2 := LA1.chg SC (by simp; omega)
                    have LB2 := LB.chg SC (by simp; omega)
                    have hxg2 : V.heap.size ≤ xg := hxg
                    have OX2 := (OX.chg SC (by simp [ob, Value.ownBlock]; omega)).base (base' := y) ywr0
                    have C9 := CV.trans1 hHeld
                    clear hHeld SC
                    have hki : (k : Int) ≤ (i : Int) := by omega
                    go_wp2_with fail
                    go_ret
                    have hY := HY.out
                    subst hY
                    exact ⟨_, rfl, w.heap.size, _, _, _, rfl, C9, Nat.le_refl _, BO2, OX2, LA2, LB2, GB2⟩
                  exact AllReadyH.nil
                exact AllReadyH.nil
              exact AllReadyH.nil
            refine AllReadyH.cons (o := _) rfl (fun K hK => ?_) ?_
            ·
              rw [if_pos (by rfl)]
              go_simp
              refine hK.out _ _ (hHeld.alloc _) (fun hHeld => ?_)
              clear hK K
              try simp only [Act.put, List.setIfInBounds_toArray, List.set_cons_zero, List.set_cons_succ]
              have AL := Blk.new v7 #[.slice (some ⟨xg, 0, none⟩) i xc] 22
              replace GB := GB.alloc (.cells #[.slice (some ⟨xg, 0, none⟩) i xc] 22)
              replace BO1 := BO1.alloc (.cells #[.slice (some ⟨xg, 0, none⟩) i xc] 22)
              replace LA1 := LA1.chg ((Chg.refl v7 []).alloc (.cells #[.slice (some ⟨xg, 0, none⟩) i xc] 22)) (by simp)
              replace OX := OX.chg ((Chg.refl v7 []).alloc (.cells #[.slice (some ⟨xg, 0, none⟩) i xc] 22)) (by simp)
              refine wpAnyH_ready (rs := [4]) (by kernel_rfl) (by simp) ?_
              refine AllReadyH.cons (o := _) rfl (fun K hK => ?_) ?_
              ·
                have cg := GB.cell 1
                rw [Array.getElem?_append_left (by simp)] at cg
                simp at cg
                rw [if_pos (by rfl)]
                go_simp
                refine hK.out _ _ (hHeld) (fun hHeld => ?_)
                clear hK K
                try simp only [Act.put, List.setIfInBounds_toArray, List.set_cons_zero, List.set_cons_succ]
                refine wpAnyH_ready (rs := [8]) (by kernel_rfl) (by simp) ?_
                refine AllReadyH.cons (o := _) rfl (fun K hK => ?_) ?_
                ·
                  rw [if_pos (by rfl)]
                  refine wp_append_own_wide _ (.tmp 50) (.tmp 53) 23 rfl y 22 inf (.slice none 0 0) 1 24 Tryd.underlying23 hinf hz hs1 hs2 rfl (by omega) (.slice none 0 0) 0 [] rfl (World.ownsRow_nil _ _ _ _) ⟨v7.heap.size, 0, none⟩ 1 1 [.slice (some ⟨xg, 0, none⟩) i xc] rfl rfl (fun j u hj => add_cell (by rw [Nat.zero_add, AL.cell]; simpa using hj)) (by simp [Value.oneCell']) (by simp [maxLen]) (by omega) (by simp; omega) ?_
                  intro lb w8 O8 G8 _
                  have LB : One w8 y lb (.slice (some ⟨xg, 0, none⟩) i xc) := O8
                  replace G8 : Chg (v7.alloc (.cells #[.slice (some ⟨xg, 0, none⟩) i xc] 22)) w8 [] := Chg.grown G8
                  obtain ⟨mg, mc, rfl, hmg1, hmg2, hmg3⟩ := LB.form
                  refine hK.out _ _ (hHeld.trans1 G8.wide) (fun hHeld => ?_)
                  clear hK K
                  try simp only [Act.put, List.setIfInBounds_toArray, List.set_cons_zero, List.set_cons_succ]
                  replace GB := GB.chg G8 (by simp)
                  replace BO1 := BO1.chg G8 (by simp)
                  replace LA1 := LA1.chg G8 (by simp)
                  replace OX := OX.chg G8 (by simp)
                  clear G8 O8 AL
                  refine take_val (v := ?_) 9 (some 55) rfl (by kernel_rfl) (by kernel_rfl) (by kernel_rfl) (fun _ _ _ h => h) rfl rfl (fun w hSw => ?_) hHeld ?_
                  rotate_left
                  · (go_simp; try with_reducible rfl)
                  try simp only [Act.put, List.setIfInBounds_toArray, List.set_cons_zero, List.set_cons_succ]
                  refine take_val (v := ?_) 10 (some 56) rfl (by kernel_rfl) (by kernel_rfl) (by kernel_rfl) (fun _ _ _ h => h) rfl rfl (fun w hSw => ?_) hHeld ?_
                  rotate_left
                  · (go_simp; try with_reducible rfl)
                  try simp only [Act.put, List.setIfInBounds_toArray, List.set_cons_zero, List.set_cons_succ]
                  refine wpAnyH_ready (rs := [11]) (by kernel_rfl) (by simp) ?_
                  refine AllReadyH.cons (o := _) rfl (fun K hK => ?_) ?_
                  ·
                    have cg := GB.cell 1
                    have fg := GB.frozen 1
                    rw [Array.getElem?_append_left (by simp)] at cg
                    simp at cg
                    rw [if_pos (by rfl)]
                    go_simp
                    refine hK.out _ _ (hHeld.setIn (by simp) _ _) (fun hHeld => ?_)
                    clear hK K
                    try simp only [Act.put, List.setIfInBounds_toArray, List.set_cons_zero, List.set_cons_succ]
                    refine wpAnyH_done (by kernel_rfl) ?_ _
                    have GB2 := (GB.setCell 1 (.slice (some ⟨mg, 0, none⟩) 1 mc)).to (by rw [Array.setIfInBounds_append_left (by simp)])
                    simp only [List.setIfInBounds_toArray, List.set_cons_zero, List.set_cons_succ] at GB2
                    have SC := (Chg.refl w8 [gb]).setIn (k := gb) (by simp) 1 (.slice (some ⟨mg, 0, none⟩) 1 mc)
                    have BO2 := BO1.chg SC (by simp; omega)
                    have LA2 := LA1.chg SC (by simp; omega)
                    have LB2 := LB.chg SC (by simp; omega)
                    have hxg2 : V.heap.size ≤ xg := hxg
                    have OX2 := (OX.chg SC (by simp [ob, Value.ownBlock]; omega)).base (base' := y) ywr0
                    have C9 := CV.trans1 hHeld
                    clear hHeld SC
                    have hki : (k : Int) ≤ (i : Int) := by omega
                    go_wp2_with fail
                    go_ret
                    have hY := HY.out
                    subst hY
                    exact ⟨_, rfl, w.heap.size, _, _, _, rfl, C9, Nat.le_refl _, BO2, OX2, LA2, LB2, GB2⟩
                  exact AllReadyH.nil
                exact AllReadyH.nil
              exact AllReadyH.nil
            exact AllReadyH.nil
          exact AllReadyH.nil

set_option maxHeartbeats 8000000 in
set_option maxRecDepth 100000 in
theorem More_o (s t f : Nat → Nat) (k m n N2 : Nat) (v b : Value) (w : World) (hs : ∀ i, i < 8 → U (s i)) (hk : k + m ≤ 211106232532992) (hn : n + m = N2) (hn2 : N2 < 18446744073709551616) (hv : Sl w v k t) (hb : Se w b m f) :
    Calls Tryd.prog 29 #[.agg (mC s v n), b] w fun e w' => ∃ tv, e = .returned (.agg (mC (run KK s (cat t k f) ((k + m) / 128)) tv N2)) ∧ Sl w' tv ((k + m) % 128) (fun i => cat t k f (128 * ((k + m) / 128) + i)) ∧ Chg w w' [] ∧ ∀ x, x < w.heap.size → Off tv [x] := by
  obtain ⟨pb, cb, rfl⟩ := hb.frm2
  have HUS : Hid (∀ i, i < 8 → U (s i)) := hs
  obtain ⟨M, hM⟩ : ∃ M, k + m = M := ⟨_, rfl⟩
  obtain ⟨u, hu⟩ : ∃ u, cat t k f = u := ⟨_, rfl⟩
  have HML : Hid (M ≤ 211106232532992) := by show M ≤ 211106232532992; omega
  have HL1 : Hid (0 + k ≤ 211106232532992) := by show 0 + k ≤ 211106232532992; omega
  have HL2 : Hid (k + m ≤ 211106232532992) := by show k + m ≤ 211106232532992; omega
  have HU : Hid (cat t k f = u) := hu
  have HM : Hid (k + m = M) := hM
  have ew : IntKind.u64.wrap (m : Int) = (m : Int) := by rw [IntKind.wrap_u64]; omega
  have ea : IntKind.u64.wrap ((n : Int) + (m : Int)) = (N2 : Int) := by rw [IntKind.wrap_u64]; omega
  have HC9 : Hid ((mC s v n)[9]? = some (.int .u64 (n : Int))) := mC_len _ _ _
  have HC8 : (mC s v n)[8]? = some v := mC_tail _ _ _
  have HRG : Hid (∀ W b T, Blk W b (mC s v n) T → W.rangeAt b 0 (vL 8 s)) := fun W b T h => mid_range h
  rw [hM, hu]
  obtain ⟨cm, hcm⟩ : ∃ cm, mC s v n = cm := ⟨_, rfl⟩
  rw [hcm] at HC9 HC8 HRG
  rw [hcm]
  have HLN : Hid ((vL 8 s).length = 8) := vL_len _ _
  have HLA : Hid ((vL 8 s).toArray = vC 8 s) := vL_arr _ _
  have HVS : Hid ((vC 8 s).size = 8) := vC_size _ _
  have HVO : Hid ((vC 8 s).all (·.oneCell') = true) := vC_one _ _
  obtain ⟨l8, hl8⟩ : ∃ l, vL 8 s = l := ⟨_, rfl⟩
  obtain ⟨c8s, hc8s⟩ : ∃ c, vC 8 s = c := ⟨_, rfl⟩
  have HVC : Hid (vC 8 s = c8s) := hc8s
  rw [hl8] at HRG HLN HLA
  rw [hc8s] at HLA HVS HVO
  have A0 : Blk ((w.alloc (.cells cm 73)).alloc (.cells #[.int .u64 0, .int .u64 0, .int .u64 0, .int .u64 0, .int .u64 0, .int .u64 0, .int .u64 0, .int .u64 0, .slice none 0 0, .int .u64 0] 73)) w.heap.size cm 73 := (Blk.new _ _ _).alloc _
  have G0 : Blk ((w.alloc (.cells cm 73)).alloc (.cells #[.int .u64 0, .int .u64 0, .int .u64 0, .int .u64 0, .int .u64 0, .int .u64 0, .int .u64 0, .int .u64 0, .slice none 0 0, .int .u64 0] 73)) (w.heap.size + 1) #[.int .u64 0, .int .u64 0, .int .u64 0, .int .u64 0, .int .u64 0, .int .u64 0, .int .u64 0, .int .u64 0, .slice none 0 0, .int .u64 0] 73 := by have h := Blk.new (w.alloc (.cells cm 73)) #[.int .u64 0, .int .u64 0, .int .u64 0, .int .u64 0, .int .u64 0, .int .u64 0, .int .u64 0, .int .u64 0, .slice none 0 0, .int .u64 0] 73; simpa using h
  have C0 : Chg w ((w.alloc (.cells cm 73)).alloc (.cells #[.int .u64 0, .int .u64 0, .int .u64 0, .int .u64 0, .int .u64 0, .int .u64 0, .int .u64 0, .int .u64 0, .slice none 0 0, .int .u64 0] 73)) [] := ((Chg.refl w []).alloc _).alloc _
  have c8 := (A0.cell 8).trans HC8
  have hv0 := hv.chg C0 (Off.nil _)
  have hb0 := hb.chg C0
  have ON := Own.nil ((w.alloc (.cells cm 73)).alloc (.cells #[.int .u64 0, .int .u64 0, .int .u64 0, .int .u64 0, .int .u64 0, .int .u64 0, .int .u64 0, .int .u64 0, .slice none 0 0, .int .u64 0] 73)) (((w.alloc (.cells cm 73)).alloc (.cells #[.int .u64 0, .int .u64 0, .int .u64 0, .int .u64 0, .int .u64 0, .int .u64 0, .int .u64 0, .int .u64 0, .slice none 0 0, .int .u64 0] 73))).heap.size (fun _ => 0)
  have HB0 : Hid ((((w.alloc (.cells cm 73)).alloc (.cells #[.int .u64 0, .int .u64 0, .int .u64 0, .int .u64 0, .int .u64 0, .int .u64 0, .int .u64 0, .int .u64 0, .slice none 0 0, .int .u64 0] 73))).heap.size ≤ (((w.alloc (.cells cm 73)).alloc (.cells #[.int .u64 0, .int .u64 0, .int .u64 0, .int .u64 0, .int .u64 0, .int .u64 0, .int .u64 0, .int .u64 0, .slice none 0 0, .int .u64 0] 73))).heap.size) := Nat.le_refl _
  have HSZ0 : Hid (w.heap.size < (((w.alloc (.cells cm 73)).alloc (.cells #[.int .u64 0, .int .u64 0, .int .u64 0, .int .u64 0, .int .u64 0, .int .u64 0, .int .u64 0, .int .u64 0, .slice none 0 0, .int .u64 0] 73))).heap.size ∧ w.heap.size + 1 < (((w.alloc (.cells cm 73)).alloc (.cells #[.int .u64 0, .int .u64 0, .int .u64 0, .int .u64 0, .int .u64 0, .int .u64 0, .int .u64 0, .int .u64 0, .slice none 0 0, .int .u64 0] 73))).heap.size) := ⟨A0.lt, G0.lt⟩
  obtain ⟨bs, hbs⟩ : ∃ b, (((w.alloc (.cells cm 73)).alloc (.cells #[.int .u64 0, .int .u64 0, .int .u64 0, .int .u64 0, .int .u64 0, .int .u64 0, .int .u64 0, .int .u64 0, .slice none 0 0, .int .u64 0] 73))).heap.size = b := ⟨_, rfl⟩
  rw [hbs] at ON HSZ0
  have HBS : Hid (bs ≤ (((w.alloc (.cells cm 73)).alloc (.cells #[.int .u64 0, .int .u64 0, .int .u64 0, .int .u64 0, .int .u64 0, .int .u64 0, .int .u64 0, .int .u64 0, .slice none 0 0, .int .u64 0] 73))).heap.size) := Nat.le_of_eq hbs.symm
  clear hs hk hn hn2 hM hu hcm HC8 hl8 hc8s hv hb HB0 hbs
  go_enter Tryd.func29, Tryd.ntmps29
  go_wp2_with (first
    | (with_reducible refine append_y ?_ (.tmp 9) (.tmp 11) ?_ bs (.slice none 0 0) v 0 k (fun _ => 0) t ?_ ?_ ON hv0 HL1.out HBS.out ?_
       · rfl
       · rfl
       · rfl
       · rfl
       intro a2 w2 O2 k2
       rw [Nat.zero_add, cat_zero] at O2
       have k2' : Chg ((w.alloc (.cells cm 73)).alloc (.cells #[.int .u64 0, .int .u64 0, .int .u64 0, .int .u64 0, .int .u64 0, .int .u64 0, .int .u64 0, .int .u64 0, .slice none 0 0, .int .u64 0] 73)) w2 [] := k2
       have hb2 := hb0.chg k2'
       have HB2 : Hid (bs ≤ w2.heap.size) := Nat.le_trans HBS.out k2'.size
       have A2 := A0.chg k2' (by simp)
       have G2 := G0.chg k2' (by simp)
       have C2 := C0.trans1 k2'
       clear c8 A0 G0 C0 hv0 hb0 ON HBS k2 k2')
    | (with_reducible refine append_e ?_ (.tmp 13) (.tmp 14) ?_ bs a2 (.slice pb m cb) k m t f ?_ ?_ O2 hb2 HL2.out HB2.out ?_
       · rfl
       · rfl
       · rfl
       · rfl
       intro a3 w3 O3 k3
       rw [HU.out, HM.out] at O3
       have A3 := A2.chg k3 (fun hx => by have := (O2.ob_ge _ hx).1; have := HSZ0.out; omega)
       have G3 := G2.chg k3 (fun hx => by have := (O2.ob_ge _ hx).1; have := HSZ0.out; omega)
       have C3 := C2.trans k3 (fun x hx => Or.inr (by have := (O2.ob_ge _ hx).1; have := HSZ0.out; omega))
       have hRG := HRG.out _ _ _ A3
       have N3 := Blk.new w3 z8 53
       clear A2 G2 C2 hb2)
    | (with_reducible refine wpList_load_mid ?_ 53 (.tmp 16) ?_ w.heap.size 0 ?_ l8 _ hRG Tryd.underlying53 ?_ ?_ ?_
       · rfl
       · rfl
       · rfl
       · rfl
       · (rw [HLN.out]; exact S8Info)
       rw [HLA.out])
    | (refine wpList_store_row rfl 53 _ _ rfl w3.heap.size c8s rfl rfl 53 _ N3 (by rw [HVS.out]; exact S8Info) (by rw [HVS.out]; rfl) HVO.out ?_
       try (change wpList Tryd.prog _ _ _ _ ((w3.alloc (.cells z8 53)).setRow w3.heap.size c8s))))
  have K3 : Chg w3 ((w3.alloc (.cells z8 53)).setRow w3.heap.size c8s) [] := ((Chg.refl w3 []).alloc _).setRowNew (Nat.le_refl _) _
  have N4 : Blk ((w3.alloc (.cells z8 53)).setRow w3.heap.size c8s) w3.heap.size (vC 8 s) 53 := (N3.setRow c8s).to HVC.out.symm
  replace A3 := A3.chg K3 (by simp)
  replace G3 := G3.chg K3 (by simp)
  have C0 := C3.trans1 K3
  have HO3 : Hid (∀ x ∈ ob a3, bs ≤ x ∧ x < w3.heap.size) := O3.ob_ge
  have HSL0 := O3.sl.chg K3 (Off.nil _)
  have HSZ3 : Hid (w.heap.size ≤ w3.heap.size ∧ ¬ w.heap.size = w3.heap.size ∧ ¬ w.heap.size + 1 = w3.heap.size) := by have h1 := A3.lt; have h2 := C3.size; have h3 := HSZ0.out; have h4 := HB2.out; have h5 := k3.size; show w.heap.size ≤ w3.heap.size ∧ ¬ w.heap.size = w3.heap.size ∧ ¬ w.heap.size + 1 = w3.heap.size; omega
  try (change Code.wp _ _ _ _ ((w3.alloc (.cells z8 53)).setRow w3.heap.size c8s))
  generalize ((w3.alloc (.cells z8 53)).setRow w3.heap.size c8s) = y at *
  generalize w3.heap.size = sb at *
  obtain ⟨p, cp, ha3, hpf⟩ := HSL0.frm
  subst ha3
  have HSL : Hid (Sl y (.slice p M cp) M u) := HSL0
  have HSLO : Hid (Off (.slice p M cp) [sb]) := fun g o n c he hg => by
    simp only [List.mem_singleton] at hg
    subst hg
    have := (HO3.out g (by simp only [Value.slice.injEq] at he; rw [he.1]; simp [ob, Value.ownBlock])).2
    omega
  have HPF : Hid (0 < M → ∃ g o, p = some ⟨g, o, none⟩ ∧ M ≤ cp ∧ cp ≤ 9223372036854775807 ∧ ¬ g = sb ∧ Bs y g o M u) := fun h => by
    obtain ⟨g, o, rfl, h1, h2, h3⟩ := hpf h
    exact ⟨g, o, rfl, h1, h2, fun hx => HSLO.out g o M cp rfl (by simp [hx]), h3⟩
  have HBs : Hid (w.heap.size ≤ sb) := HSZ3.out.1
  have HBd : Hid (w.heap.size ≤ w.heap.size + 1) := by show w.heap.size ≤ w.heap.size + 1; omega
  have HD6 : Hid (¬ w.heap.size = sb ∧ ¬ w.heap.size + 1 = sb) := HSZ3.out.2
  have HYS : Hid (w.heap.size + 1 < y.heap.size) := G3.lt
  generalize hgd : w.heap.size + 1 = gd at *
  have SB0 : Blk y sb (vC 8 (run KK s u 0)) 53 := N4
  clear N3 N4 hRG K3 C3 O3 O2 k3 HO3 HSL0 hpf HSZ3 HSZ0 HB2 HRG HVO HVS HLA HLN
  go_loopw [7] (fun t wr => ∃ j q : Nat, 128 * j = q ∧ q ≤ M ∧ t = .int .i64 (q : Int) ∧ Blk wr sb (vC 8 (run KK s u j)) 53 ∧ Chg y wr [sb]) (fun t _ => ((M : Int) - intOf t).toNat)
  case atStart => exact ⟨0, 0, rfl, Nat.zero_le _, rfl, SB0, Chg.refl _ _⟩
  case round =>
    clear SB0
    obtain ⟨j, q, hjq, hqM, rfl, b0, c0⟩ := hrel
    by_cases h9 : q + 128 ≤ M
    · have hI2 : (q : Int) + 128 ≤ (M : Int) := by omega
      have e8 : IntKind.i64.wrap ((q : Int) + 128) = (q : Int) + 128 := by have := HML.out; rw [IntKind.wrap_i64]; omega
      have hn8 : ((q : Int) + 128).toNat = q + 128 := by omega
      have hI6 : (0 : Int) ≤ (q : Int) + 128 := by omega
      have hI0 : (0 : Int) ≤ (q : Int) := by omega
      have hI7 : (q : Int) ≤ (q : Int) + 128 := by omega
      obtain ⟨g, o, rfl, hc1, hc2, hgs, hB⟩ := HPF.out (by omega)
      have hI3 : (M : Int) ≤ (cp : Int) := by omega
      have hI5 : (q : Int) + 128 ≤ (cp : Int) := by omega
      have hci : ¬ cp = q := by omega
      have hcpq : 128 ≤ cp - q := by omega
      have BK : Hid (Bs wr g (o + q) 128 (fun i => u (q + i))) := (hB.chg c0 (by simpa using hgs)).sub q 128 h9
      have us := run_lt (k := KK) (u := u) HUS.out j
      have HRN : Hid (vC 8 (run KK s u (j + 1)) = vC 8 (cmp KK (run KK s u j) fun i => u (q + i))) := by subst hjq; rfl
      have HBLK : Hid (∀ w, Bs w g (o + q) 128 (fun i => u (q + i)) → Calls Tryd.prog 41 #[.agg (vC 8 (run KK s u j)), .slice (some ⟨g, o + q, none⟩) 128 (cp - q)] w fun e w' => e = .returned (.agg (vC 8 (cmp KK (run KK s u j) fun i => u (q + i)))) ∧ Chg w w' []) := fun w hb => block_r _ _ g (o + q) (cp - q) w us hcpq hb
      have HSZ : Hid ((vC 8 (run KK s u j)).size = 8) := vC_size _ _
      have HSZ2 : Hid ((vC 8 (cmp KK (run KK s u j) fun i => u (q + i))).size = 8) := vC_size _ _
      have HON : Hid ((vC 8 (cmp KK (run KK s u j) fun i => u (q + i))).all (·.oneCell') = true) := vC_one _ _
      obtain ⟨cs, hcs⟩ : ∃ cs, vC 8 (run KK s u j) = cs := ⟨_, rfl⟩
      obtain ⟨ct, hct⟩ : ∃ ct, vC 8 (cmp KK (run KK s u j) fun i => u (q + i)) = ct := ⟨_, rfl⟩
      rw [hcs, hct] at HBLK
      rw [hcs] at HSZ b0
      rw [hct] at HSZ2 HRN HON
      have HJ : Hid (128 * (j + 1) = q + 128) := by show 128 * (j + 1) = q + 128; omega
      have H9 : Hid (q + 128 ≤ M) := h9
      clear hjq hqM h9 us hcs hct hB hc2
      go_wp2_with fail
      refine wp_region_held_drew (S := fun w' => Chg wr w' [sb]) (by kernel_rfl) ((Chg.refl wr _).drew) (fun hHeld => ?_)
      refine take_val (v := ?_) 1 (some 24) rfl (by kernel_rfl) (by kernel_rfl) (by kernel_rfl) (fun _ _ _ h => h) rfl rfl (fun w hSw => ?_) hHeld ?_
      rotate_left
      · (go_simp; try with_reducible rfl)
      try simp only [Act.put, List.setIfInBounds_toArray, List.set_cons_zero, List.set_cons_succ]
      refine take_val (v := ?_) 2 (some 25) rfl (by kernel_rfl) (by kernel_rfl) (by kernel_rfl) (fun _ _ _ h => h) rfl rfl (fun w hSw => ?_) hHeld ?_
      rotate_left
      · (go_simp; try with_reducible rfl)
      try simp only [Act.put, List.setIfInBounds_toArray, List.set_cons_zero, List.set_cons_succ]
      refine take_val (v := ?_) 3 (some 26) rfl (by kernel_rfl) (by kernel_rfl) (by kernel_rfl) (fun _ _ _ h => h) rfl rfl (fun w hSw => ?_) hHeld ?_
      rotate_left
      · (go_simp; try with_reducible rfl)
      try simp only [Act.put, List.setIfInBounds_toArray, List.set_cons_zero, List.set_cons_succ]
      refine take_val (v := ?_) 4 (some 27) rfl (by kernel_rfl) (by kernel_rfl) (by kernel_rfl) (fun _ _ _ h => h) rfl rfl (fun w hSw => ?_) hHeld ?_
      rotate_left
      · (go_simp; try with_reducible rfl)
      try simp only [Act.put, List.setIfInBounds_toArray, List.set_cons_zero, List.set_cons_succ]
      refine take_val (v := (.slice (some ⟨g, o + q, none⟩) 128 (cp - q))) 5 (some 28) rfl (by kernel_rfl) (by kernel_rfl) (by kernel_rfl) (fun _ _ _ h => h) rfl rfl (fun w hSw => ?_) hHeld ?_
      · (go_simp; try omega)
      try simp only [Act.put, List.setIfInBounds_toArray, List.set_cons_zero, List.set_cons_succ]
      refine wpAnyH_ready (rs := [0]) (by kernel_rfl) (by simp) ?_
      refine AllReadyH.cons (o := _) rfl (fun K hK => ?_) ?_
      ·
        rw [if_pos (by rfl)]
        refine wp_load_row 53 (.tmp 6) rfl sb rfl 53 cs (0, 0) _ b0.drew Tryd.underlying53 rfl (by rw [HSZ.out]; exact S8Info) ?_
        refine hK.out _ _ hHeld (fun hHeld => ?_)
        clear hK K
        try simp only [Act.put, List.setIfInBounds_toArray, List.set_cons_zero, List.set_cons_succ]
        refine wpAnyH_ready (rs := [6]) (by kernel_rfl) (by simp) ?_
        refine AllReadyH.cons (o := _) rfl (fun K hK => ?_) ?_
        ·
          go_simp
          refine (HBLK.out _ (BK.out.chg (Chg.refl wr []).drew (by simp))).mono ?_
          rintro e x1 ⟨rfl, k1⟩
          go_wp2_with fail
          have b1 := b0.drew.chg k1 (by simp)
          refine hK.out _ _ (hHeld.trans1 k1.wide) (fun hHeld => ?_)
          clear hK K k1
          try simp only [Act.put, List.setIfInBounds_toArray, List.set_cons_zero, List.set_cons_succ]
          refine wpAnyH_ready (rs := [7]) (by kernel_rfl) (by simp) ?_
          refine AllReadyH.cons (o := _) rfl (fun K hK => ?_) ?_
          ·
            rw [if_pos (by rfl)]
            refine wp_store_row 53 _ _ rfl sb ct rfl rfl 53 _ b1 (by rw [HSZ2.out]; exact S8Info) (by rw [HSZ.out, HSZ2.out]) HON.out ?_
            have hS := hHeld.trans1 (Chg.of (gb_setRow (gb_refl x1 (some sb)) ct))
            refine hK.out _ _ hS (fun hHeld => ?_)
            clear hK K hHeld
            try simp only [Act.put, List.setIfInBounds_toArray, List.set_cons_zero, List.set_cons_succ]
            refine wpAnyH_done (by kernel_rfl) ?_ _
            have b2 := b1.setRow ct
            generalize x1.setRow sb ct = x2 at *
            go_wp2_with fail
            exact ⟨⟨j + 1, q + 128, HJ.out, H9.out, by go_num, b2.to HRN.out.symm, c0.trans1 hS⟩, by have := H9.out; simp [intOf]; omega⟩
          exact AllReadyH.nil
        exact AllReadyH.nil
      exact AllReadyH.nil
    · have hI2 : ¬ (q : Int) + 128 ≤ (M : Int) := by omega
      have e8 : IntKind.i64.wrap ((q : Int) + 128) = (q : Int) + 128 := by have := HML.out; rw [IntKind.wrap_i64]; omega
      have HJQ : Hid (128 * j = q ∧ q ≤ M ∧ M < q + 128) := by show 128 * j = q ∧ q ≤ M ∧ M < q + 128; omega
      clear hjq hqM h9
      obtain ⟨S, hS⟩ : ∃ S, run KK s u j = S := ⟨_, rfl⟩
      have HSE : Hid (S = run KK s u (M / 128)) := by show S = _; rw [← hS]; congr 1; have := HJQ.out; omega
      rw [hS] at b0
      clear hS
      have hqM : q ≤ M := HJQ.out.2.1
      obtain ⟨rv, hsl, hrv⟩ := from_sl (HSL.out.chg c0 HSLO.out) hqM
      have HRV : Hid (Sl wr rv (M - q) (fun i => u (q + i))) := hrv
      have A4 := A3.chg c0 (by simp; have := HD6.out; omega)
      have G4 := G3.chg c0 (by simp; have := HD6.out; omega)
      have C1 := C0.new c0 HBs.out
      have HW : Hid (w.heap.size ≤ wr.heap.size ∧ gd < wr.heap.size) := ⟨C1.size, G4.lt⟩
      have HL3 : Hid (0 + (M - q) ≤ 211106232532992) := by have := HML.out; show 0 + (M - q) ≤ 211106232532992; omega
      have HBW : Hid (wr.heap.size ≤ wr.heap.size) := Nat.le_refl _
      have ON := Own.nil wr wr.heap.size (fun _ => 0)
      have hSz : (vC 8 S).size = 8 := vC_size _ _
      have HMQ : Hid (M - q = M % 128 ∧ q = 128 * (M / 128)) := by have := HJQ.out; show M - q = M % 128 ∧ q = 128 * (M / 128); omega
      obtain ⟨cs, hcs⟩ : ∃ cs, vC 8 S = cs := ⟨_, rfl⟩
      have HSz : Hid (cs.size = 8) := by show cs.size = 8; rw [← hcs]; exact hSz
      have HBM : Hid (∀ a k c, Tryd.prog.built 73 [(0, .agg cs), (1, .slice a k c), (2, .int .u64 (N2 : Int))] = some (mC S (.slice a k c) N2)) := fun a k c => by rw [← hcs]; exact builtM S a k c N2
      rw [hcs] at b0
      clear hqM hrv c0 hSz hcs HPF
      obtain ⟨r, hr⟩ : ∃ r, M - q = r := ⟨_, rfl⟩
      have HRQ : Hid (M - q = r) := hr
      rw [hr] at HRV HL3
      obtain ⟨uf, huf⟩ : ∃ uf : Nat → Nat, (fun i => u (q + i)) = uf := ⟨_, rfl⟩
      have HUF : Hid ((fun i => u (q + i)) = uf) := huf
      rw [huf] at HRV
      have hsv := HRV.out
      clear hr huf
      go_wp2_with (first
        | (with_reducible refine append_y ?_ (.tmp 32) (.tmp 35) ?_ wr.heap.size (.slice none 0 0) rv 0 r (fun _ => 0) uf ?_ ?_ ON hsv HL3.out HBW.out ?_
           · rfl
           · rfl
           · rfl
           · rfl
           intro a4 w4 O4 k4
           have k4' : Chg wr w4 [] := k4
           rw [Nat.zero_add, cat_zero] at O4
           have b4 := b0.chg k4' (by simp)
           have A5 := A4.chg k4' (by simp)
           have G5 := G4.chg k4' (by simp)
           have c9 := (A5.cell 9).trans HC9.out
           have C2 := C1.trans1 k4'
           obtain ⟨p4, q4, ha4, _⟩ := O4.sl.frm
           subst ha4)
        | (with_reducible refine load_b b4 53 (.tmp 6) Tryd.underlying53 ?_ ?_ ?_ ?_ ?_ ?_
           · rfl
           · rfl
           · rfl
           · rfl
           · (rw [HSz.out]; exact S8Info))
        | (refine wpList_build_c rfl 73 _ rfl (mC S (.slice p4 r q4) N2) (by go_simp; exact HBM.out _ _ _) ?_)
        | (with_reducible refine store_b G5 73 (.tmp 4) (.tmp 45) (mC S (.slice p4 r q4) N2) ?_ ?_ ?_ ?_ ?_ ?_ (mC_one _ _ _ rfl) ?_
           · rfl
           · rfl
           · rfl
           · rfl
           · (rw [mC_size]; exact MInfo)
           · (rw [mC_size]; rfl)))
      refine bodyPost_ret (results_cell_row Tryd.results29 _ _ gd 73 (mC S (.slice p4 r q4) N2) (0, 0) _ rfl (G5.setRow _) Tryd.underlying73 rfl (by rw [mC_size]; exact MInfo)) rfl ⟨.slice p4 r q4, by rw [← HSE.out], ?_, C2.setRowNew HBd.out _, ?_⟩
      rotate_left
      · intro x hx g o n c he hg
        simp only [List.mem_singleton] at hg
        subst hg
        have h1 := (O4.ob_ge g (by simp only [Value.slice.injEq] at he; rw [he.1]; simp [ob, Value.ownBlock])).1
        have h2 := HW.out
        omega
      have hS4 := O4.sl
      have e1 : r = M % 128 := HRQ.out.symm.trans HMQ.out.1
      have e2 : uf = fun i => u (128 * (M / 128) + i) := by rw [← HUF.out, HMQ.out.2]
      rw [e1, e2] at hS4
      have hSR : Chg w4 (w4.setRow gd (mC S (.slice p4 r q4) N2)) [gd] := Chg.of (gb_setRow (gb_refl w4 (some gd)) _)
      refine Sl.chg (by rw [← e1] at hS4 ⊢; exact hS4) hSR ?_
      intro g o n c he hg
      simp only [List.mem_singleton] at hg
      subst hg
      have := (O4.ob_ge g (by simp only [Value.slice.injEq] at he; rw [he.1]; simp [ob, Value.ownBlock])).1
      have := HD6.out
      have := HW.out
      omega
theorem givenBytes_e3 (gb n : Nat) (v : Value) (f : Nat → Nat) (w : World) (hn : n ≤ 140737488355328) (hv : Se w v n f) (hg : Blk w gb (gC (.slice none 0 0) (.slice none 0 0)) 39) :
    Calls Tryd.prog 9 #[.pointer (some ⟨gb, 0, none⟩), v] w fun e w' => ∃ o, e = .returned (.slice (some ⟨o, 0, none⟩) n (n + 3)) ∧ w.heap.size ≤ o ∧ Bs w' o 0 n f ∧ GI w' gb w.heap.size w'.heap.size ∧ Chg w w' [gb] := by
  have hf := hv.lt256
  refine (GivenBytes_1e gb n v f (Array.replicate 28 (.slice none 0 0)) w hn hv (by rw [gC_rest]; exact hg)).mono ?_
  rintro e x2 ⟨r, rfl, o, la, lb, x, rfl, k, ho, bo, ox, ola, olb, bg⟩
  obtain ⟨lg, lc, rfl, p1, p2, cl⟩ := ola.form
  obtain ⟨mg, mc, rfl, p3, p4, cr⟩ := olb.form
  obtain ⟨xg, xc, rfl, p5, _, _, bx⟩ := ox.form (by omega)
  refine ⟨o, rfl, ho, ⟨bo.lt, hf, fun i hi => ?_⟩, ⟨n + 3, o, lg, lc, mg, mc, xg, xc, gvf f n, by omega, fun i _ => gvf_lt hf i, by unfold gC; exact bg, cl, cr, bo, bx, ⟨ho, bo.lt⟩, ⟨p1, p2⟩, ⟨p3, p4⟩, ⟨p5, bx.lt⟩, bg.lt, Nat.le_refl _⟩, k⟩
  rw [Nat.zero_add, bo.cell, yC_get _ _ _ (by omega)]
  unfold gvf
  rw [if_pos hi]
theorem More_n (S T f : Nat → Nat) (n m : Nat) (v b : Value) (w : World) (hs : ∀ i, i < 8 → U (S i)) (hm : m ≤ 140737488355328) (hn2 : n + m < 18446744073709551616) (hv : Sl w v (n % 128) T) (hb : Se w b m f) :
    Calls Tryd.prog 29 #[.agg (mC S v n), b] w fun e w' => ∃ tv, e = .returned (.agg (mC (mw S T n f m) tv (n + m))) ∧ Sl w' tv ((n + m) % 128) (mt T n f m) ∧ Chg w w' [] ∧ ∀ x, x < w.heap.size → Off tv [x] := by
  refine (More_o S T f (n % 128) m n (n + m) v b w hs (by omega) rfl hn2 hv hb).mono ?_
  rintro e w' ⟨tv, rfl, hS, k, ho⟩
  refine ⟨tv, rfl, ?_, k, ho⟩
  rw [show (n + m) % 128 = (n % 128 + m) % 128 by omega]
  exact hS
end Go.Proofs.YtjcgjhncdaplcaaDoor
