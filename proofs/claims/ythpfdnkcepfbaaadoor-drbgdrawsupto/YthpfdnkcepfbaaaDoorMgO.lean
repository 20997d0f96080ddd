/- Joined: H26, H27. -/
import Derived.Test.YthpfdnkcepfbaaaDoorMgN
import Derived.Test.YthpfdnkcepfbaaaDoorMgM
import Derived.Test.YthpfdnkcepfbaaaDoorMgI
/- A Hasher at any midstate: Write, State, Sum, Resume; rimeref03.More and Finish in the same words. -/
set_option linter.unusedVariables false
set_option linter.unusedSimpArgs false
set_option linter.unnecessarySimpa false
namespace Go.Proofs.YthpfdnkcepfbaaaDoor
open Go.RowKit

/-- The Hasher h stands at words S, with n bytes taken, of which the last n % 128 are T. -/
def Hm (w : World) (h : Nat) (S T : Nat → Nat) (n : Nat) : Prop :=
  ∃ t, Blk w h (hC S t n) 157 ∧ (∀ j, j < 128 → t j < 256) ∧ ∀ j, j < n % 128 → t j = T j
theorem Hm.chg {w w' : World} {h : Nat} {S T : Nat → Nat} {n : Nat} {ch : List Nat} (H : Hm w h S T n) (hc : Chg w w' ch) (ho : ¬ h ∈ ch) : Hm w' h S T n := by
  obtain ⟨t, h1, h2, h3⟩ := H
  exact ⟨t, h1.chg hc ho, h2, h3⟩
theorem Hm.lt {w : World} {h : Nat} {S T : Nat → Nat} {n : Nat} (H : Hm w h S T n) : h < w.heap.size := by
  obtain ⟨t, h1, _⟩ := H
  exact h1.lt
/-- The words behind m bytes f more. -/
def mw (S T : Nat → Nat) (n : Nat) (f : Nat → Nat) (m : Nat) : Nat → Nat := run KK S (cat T (n % 128) f) ((n % 128 + m) / 128)
/-- The tail behind m bytes f more. -/
def mt (T : Nat → Nat) (n : Nat) (f : Nat → Nat) (m : Nat) : Nat → Nat := fun i => cat T (n % 128) f (128 * ((n % 128 + m) / 128) + i)
theorem mw_U {S : Nat → Nat} (h : ∀ i, i < 8 → U (S i)) (T : Nat → Nat) (n : Nat) (f : Nat → Nat) (m : Nat) : ∀ i, i < 8 → U (mw S T n f m i) := run_lt h _
/-- The digest of a midstate. -/
def fh (S T : Nat → Nat) (n : Nat) : Nat → Nat := dig (run KK S (cat T (n % 128) (pdf n)) ((n % 128 + (17 + zr n)) / 128))
theorem cat_agree {t T f : Nat → Nat} {r : Nat} (h : ∀ j, j < r → t j = T j) : cat t r f = cat T r f := by
  funext i
  unfold cat
  by_cases hi : i < r
  · rw [if_pos hi, if_pos hi, h i hi]
  · rw [if_neg hi, if_neg hi]
theorem Hm.write {w : World} {h : Nat} {S T : Nat → Nat} {n m : Nat} {f : Nat → Nat} {v : Value} (hG : Gl w) (H : Hm w h S T n) (hS : ∀ i, i < 8 → U (S i)) (h2 : 2 ≤ h) (hv : Sl w v m f) (ho : Off v [h]) (hn : n + m < 18446744073709551616) :
    Calls Tryd.prog 43 #[.pointer (some ⟨h, 0, none⟩), v] w fun e w' => e = .returned (.tuple #[]) ∧ Chg w w' [h] ∧ Hm w' h (mw S T n f m) (mt T n f m) (n + m) := by
  obtain ⟨t, B, ht1, ht2⟩ := H
  have hcat : cat t (n % 128) f = cat T (n % 128) f := cat_agree ht2
  rcases hv with ⟨rfl, rfl⟩ | ⟨gb, o, cap, rfl, h1, h3, hb⟩
  · refine (Write_nil h n _ t w (show U n by unfold U; omega) B).mono ?_
    rintro e w' ⟨rfl, k, B'⟩
    have e0 : (n % 128 + 0) / 128 = 0 := by omega
    refine ⟨rfl, k, t, ?_, ht1, fun j hj => ?_⟩
    · unfold mw
      rw [e0]
      exact B'
    · unfold mt cat
      rw [e0, if_pos (by omega), ht2 j (by omega), Nat.mul_zero, Nat.zero_add]
  · refine (Write_g h gb o m cap n KK S t f w hG.kc hS ht1 (show U n by unfold U; omega) h1 h3 hb B (by omega) (fun e => ho gb o m cap rfl (by simp [e]))).mono ?_
    rintro e w' ⟨rfl, k, t', a1, a2, B'⟩
    rw [hcat, Nat.mod_eq_of_lt hn] at B'
    refine ⟨rfl, k, t', B', a2, fun j hj => ?_⟩
    rw [a1 j (by omega), hcat]
    rfl
theorem Hm.sum {w : World} {h : Nat} {S T : Nat → Nat} {n : Nat} (hG : Gl w) (H : Hm w h S T n) (hS : ∀ i, i < 8 → U (S i)) (hn : n < 18446744073709551616) :
    Calls Tryd.prog 45 #[.pointer (some ⟨h, 0, none⟩)] w fun e w' => e = .returned (.agg (yC 64 (fh S T n))) ∧ Chg w w' [] := by
  obtain ⟨t, B, ht1, ht2⟩ := H
  have h0 := Sum_raw h n S t w hG hn hS ht1 B
  unfold fin at h0
  rw [cat_agree ht2] at h0
  exact h0
theorem Finish_m (S T : Nat → Nat) (n : Nat) (v : Value) (w : World) (hs : ∀ i, i < 8 → U (S i)) (hn : n < 2305843009213693952) (hv : Sl w v (n % 128) T) :
    Calls Tryd.prog 100 #[.agg (vC 8 S), v, .int .u64 (n : Int)] w fun e w' => e = .returned (.agg (yC 64 (fh S T n))) ∧ Chg w w' [] :=
  Finish_r S T (n % 128) n v w hs hn (by omega) hv
theorem mC_setT (s : Nat → Nat) (v r : Value) (n : Nat) : (mC s v n).setIfInBounds 8 r = mC s r n := by
  unfold mC
  rw [Array.setIfInBounds_append_right (by rw [vC_size]; omega), vC_size]
  rfl
end Go.Proofs.YthpfdnkcepfbaaaDoor

/- rimeref03.More, of whatever bytes; the tail's block is new. (*Given).Bytes of an empty slice that points anywhere. -/
namespace Go.Proofs.YthpfdnkcepfbaaaDoor
open Go.RowKit

theorem Se.frm2 {w : World} {v : Value} {n : Nat} {f : Nat → Nat} (h : Se w v n f) : ∃ p c, v = .slice p n c := by
  rcases h with (⟨rfl, rfl⟩ | ⟨g, o, cap, rfl, _⟩) | ⟨rfl, a, rfl⟩
  · exact ⟨none, 0, rfl⟩
  · exact ⟨_, _, rfl⟩
  · exact ⟨_, _, rfl⟩
theorem Se.lt256 {w : World} {v : Value} {n : Nat} {f : Nat → Nat} (h : Se w v n f) : ∀ i, i < n → f i < 256 := by
  rcases h with h | ⟨rfl, _⟩
  · exact sl_lt h
  · intro i hi; omega
set_option maxHeartbeats 8000000 in
set_option maxRecDepth 100000 in
theorem GivenBytes_1e (gb n : Nat) (v : Value) (f : Nat → Nat) (rest : Array Value) (w : World) (hn : n ≤ 140737488355328) (hv : Se w v n f) (hg : Blk w gb (#[.slice none 0 0, .slice none 0 0] ++ rest) 39) :
    Calls Tryd.prog 9 #[.pointer (some ⟨gb, 0, none⟩), v] w fun e w' => ∃ r, e = .returned r ∧ GP w w' gb n (n + 3) f rest r := by
  have hlen : ∃ p c, v = .slice p n c := by
    exact hv.frm2
  obtain ⟨vp, vc, rfl⟩ := hlen
  have hfl := hv.lt256
  have gbl := hg.lt
  obtain ⟨m, hm⟩ : ∃ m, n + 3 = m := ⟨_, rfl⟩
  have HM : Hid (n + 3 = m) := hm
  have e1 : IntKind.i64.wrap ((n : Int) + 3) = (m : Int) := by rw [IntKind.wrap_i64]; omega
  have hmk := make_yi m (by omega)
  have B0 := Blk.new w (yC m fun _ => 0) 5
  have B1 : Blk (w.alloc (.cells (yC m fun _ => 0) 5)) w.heap.size (yC m (gv1 0)) 5 := B0.to (yC_eq fun j _ => (if_neg (by omega)).symm)
  have C1 := (Chg.refl w []).alloc (.cells (yC m fun _ => 0) 5)
  have hnm : n < m := by omega
  have hmb : m ≤ 140737488355331 := by omega
  rw [hm]
  clear hm B0 hn
  go_enter Tryd.func9, Tryd.ntmps9
  go_wp2_with fail
  clear hmk
  go_loopw [6] (fun t wr => ∃ i : Nat, i ≤ m ∧ t = .int .i64 (i : Int) ∧ Blk wr w.heap.size (yC m (gv1 i)) 5 ∧ Chg w wr []) (fun t _ => ((m : Int) - intOf t).toNat)
  case atStart => exact ⟨0, by omega, rfl, B1, C1⟩
  case round =>
    clear B1 C1
    obtain ⟨i, hi, rfl, b0, c0⟩ := hrel
    by_cases h8 : i < m
    · have hI : (i : Int) < (m : Int) := by omega
      have e2 : IntKind.i64.wrap ((i : Int) + 1) = (i : Int) + 1 := by rw [IntKind.wrap_i64]; omega
      have ck := (b0.cell i).trans (yC_get m _ i h8)
      have fk := b0.frozen i
      have b1 := (b0.setCell i (.int .u8 ((mkb i : Nat) : Int))).to (by rw [yC_set, gv1_step])
      have c1 := c0.setNew (Nat.le_refl _) i (.int .u8 ((mkb i : Nat) : Int))
      go_wp2_with fail
      refine (markBytes_s i (by omega) _).mono ?_
      rintro e v1 ⟨rfl, rfl⟩
      go_wp2_with fail
      exact ⟨⟨i + 1, by omega, by go_num, b1, c1⟩, by simp [intOf]; omega⟩
    · have h9 : i = m := by omega
      subst h9
      have hI : ¬ (i : Int) < (i : Int) := by omega
      go_wp2_with fail
      have B2 : Blk wr w.heap.size (yC i (gv2 f 0)) 5 := b0.to (yC_eq fun j hj => by unfold gv1 gv2; rw [if_pos hj, if_neg (by omega)])
      go_loopw [7] (fun t wr => ∃ k : Nat, k ≤ n ∧ t = .int .i64 (k : Int) ∧ Blk wr w.heap.size (yC i (gv2 f k)) 5 ∧ Chg w wr []) (fun t _ => ((n : Int) - intOf t).toNat)
      case atStart => exact ⟨0, by omega, rfl, B2, c0⟩
      case round =>
        clear B2 c0 b0
        obtain ⟨k, hk, rfl, b0, c0⟩ := hrel
        by_cases h8 : k < n
        · have hI1 : (k : Int) < (n : Int) := by omega
          have hI2 : (k : Int) < (i : Int) := by omega
          have e2 : IntKind.i64.wrap ((k : Int) + 1) = (k : Int) + 1 := by rw [IntKind.wrap_i64]; omega
          have ck := (b0.cell k).trans (yC_get i _ k (by omega))
          have fk := b0.frozen k
          have b1 := (b0.setCell k (.int .u8 ((f k : Nat) : Int))).to (by rw [yC_set, gv2_step])
          have c1 := c0.setNew (Nat.le_refl _) k (.int .u8 ((f k : Nat) : Int))
          have hvc := hv.chg c0
          rcases hvc with (⟨h0, _⟩ | ⟨g, o, cap, he, _, _, hb⟩) | ⟨h0, _⟩
          · omega
          rotate_left
          · omega
          · simp only [Value.slice.injEq] at he
            obtain ⟨rfl, _, rfl⟩ := he
            have cl := hb.cell k h8
            go_wp2_with fail
            exact ⟨⟨k + 1, by omega, by go_num, b1, c1⟩, by simp [intOf]; omega⟩
        · have h9 : k = n := by omega
          subst h9
          have hI1 : ¬ (k : Int) < (k : Int) := by omega
          obtain ⟨y, hy⟩ : ∃ y, w.heap.size = y := ⟨_, rfl⟩
          have HY : Hid (w.heap.size = y) := hy
          have BO : Blk wr y (yC i (gvf f k)) 5 := hy ▸ b0
          rw [hy] at gbl
          rw [hy]
          clear hy b0 hv
          have ylt := BO.lt
          have wsz := c0.size
          have hg1 := hg.chg c0 (by simp)
          have cg0 := hg1.cell 0
          rw [Array.getElem?_append_left (by simp)] at cg0
          simp at cg0
          have hi0 : 0 < i := by omega
          obtain ⟨inf, hinf, hz, hs1, hs2⟩ := listRow
          have AL := Blk.new wr #[.slice (some ⟨y, 0, none⟩) i i] 22
          have hnw : ∀ j u, ([.slice (some ⟨y, 0, none⟩) i i] : List Value)[j]? = some u → (wr.alloc (.cells #[.slice (some ⟨y, 0, none⟩) i i] 22)).cell? ((⟨wr.heap.size, 0, none⟩ : Addr).add j) = some u := by
            intro j u hj
            refine add_cell ?_
            rw [Nat.zero_add, AL.cell]
            simpa using hj
          have HNW : Hid (∀ j u, ([.slice (some ⟨y, 0, none⟩) i i] : List Value)[j]? = some u → (wr.alloc (.cells #[.slice (some ⟨y, 0, none⟩) i i] 22)).cell? ((⟨wr.heap.size, 0, none⟩ : Addr).add j) = some u) := hnw
          clear hnw AL
          go_wp2_with (refine wpList_append_own_wide _ rfl (.tmp 40) (.tmp 42) 23 rfl y 22 inf (.slice none 0 0) 1 24 Tryd.underlying23 hinf hz hs1 hs2 rfl (by omega) (.slice none 0 0) 0 [] rfl (World.ownsRow_nil _ _ _ _) ⟨wr.heap.size, 0, none⟩ 1 1 [.slice (some ⟨y, 0, none⟩) i i] rfl rfl HNW.out (by simp [Value.oneCell']) (by simp [maxLen]) (by omega) (by have := HY.out; simp; omega) ?_
                       intro la w1 O1 G1 _
                       have LA : One w1 y la (.slice (some ⟨y, 0, none⟩) i i) := O1
                       replace G1 : Chg (wr.alloc (.cells #[.slice (some ⟨y, 0, none⟩) i i] 22)) w1 [] := Chg.grown G1
                       have GB0 := (hg1.alloc (.cells #[.slice (some ⟨y, 0, none⟩) i i] 22)).chg G1 (by simp)
                       have cgb := GB0.cell 0
                       have fgb := GB0.frozen 0
                       rw [Array.getElem?_append_left (by simp)] at cgb
                       simp at cgb
                       obtain ⟨lg, lc, rfl, hlg1, hlg2, hlg3⟩ := LA.form)
          have GB := (GB0.setCell 0 (.slice (some ⟨lg, 0, none⟩) 1 lc)).to (by rw [Array.setIfInBounds_append_left (by simp)])
          simp only [List.setIfInBounds_toArray, List.set_cons_zero] at GB
          have BO1 := ((BO.alloc (.cells #[.slice (some ⟨y, 0, none⟩) i i] 22)).chg G1 (by simp)).setOther (show ¬ y = gb by omega) 0 (.slice (some ⟨lg, 0, none⟩) 1 lc)
          have LA1 := LA.chg ((Chg.refl w1 [gb]).setIn (k := gb) (by simp) 0 (.slice (some ⟨lg, 0, none⟩) 1 lc)) (by simp; omega)
          have CV := (((c0.wide (l := [gb])).alloc (.cells #[.slice (some ⟨y, 0, none⟩) i i] 22)).trans1 G1.wide).setIn (k := gb) (by simp) 0 (.slice (some ⟨lg, 0, none⟩) 1 lc)
          have ywr : y ≤ (w1.setCell ⟨gb, 0, none⟩ (.slice (some ⟨lg, 0, none⟩) 1 lc)).heap.size := Nat.le_of_lt BO1.lt
          clear cgb fgb GB0 LA O1 G1 hg1 cg0 BO c0 HNW hlg3
          generalize w1.setCell ⟨gb, 0, none⟩ (.slice (some ⟨lg, 0, none⟩) 1 lc) = V at *
          clear hlg2
          have ywr0 : y ≤ V.heap.size := ywr
          refine wp_region_held_drew (S := fun w' => Chg V w' [gb]) (by kernel_rfl) ((Chg.refl V _).drew) (fun hHeld => ?_)
          replace GB := GB.drew
          replace BO1 := BO1.drew
          replace LA1 := LA1.chg ((Chg.refl V []).drew) (by simp)
          refine take_val (v := ?_) 0 (some 46) rfl (by kernel_rfl) (by kernel_rfl) (by kernel_rfl) (fun _ _ _ h => h) rfl rfl (fun w hSw => ?_) hHeld ?_
          rotate_left
          · (go_simp; try with_reducible rfl)
          try simp only [Act.put, List.setIfInBounds_toArray, List.set_cons_zero, List.set_cons_succ]
          refine take_val (v := ?_) 1 (some 47) rfl (by kernel_rfl) (by kernel_rfl) (by kernel_rfl) (fun _ _ _ h => h) rfl rfl (fun w hSw => ?_) hHeld ?_
          rotate_left
          · (go_simp; try with_reducible rfl)
          try simp only [Act.put, List.setIfInBounds_toArray, List.set_cons_zero, List.set_cons_succ]
          refine take_val (v := ?_) 2 (some 48) rfl (by kernel_rfl) (by kernel_rfl) (by kernel_rfl) (fun _ _ _ h => h) rfl rfl (fun w hSw => ?_) hHeld ?_
          rotate_left
          · (go_simp; try with_reducible rfl)
          try simp only [Act.put, List.setIfInBounds_toArray, List.set_cons_zero, List.set_cons_succ]
          refine take_val (v := ?_) 3 (some 49) rfl (by kernel_rfl) (by kernel_rfl) (by kernel_rfl) (fun _ _ _ h => h) rfl rfl (fun w hSw => ?_) hHeld ?_
          rotate_left
          · (go_simp; try with_reducible rfl)
          try simp only [Act.put, List.setIfInBounds_toArray, List.set_cons_zero, List.set_cons_succ]
          refine take_val (v := ?_) 5 (some 51) rfl (by kernel_rfl) (by kernel_rfl) (by kernel_rfl) (fun _ _ _ h => h) rfl rfl (fun w hSw => ?_) hHeld ?_
          rotate_left
          · (go_simp; try with_reducible rfl)
          try simp only [Act.put, List.setIfInBounds_toArray, List.set_cons_zero, List.set_cons_succ]
          refine wpAnyH_ready (rs := [4, 6]) (by kernel_rfl) (by simp) ?_
          refine AllReadyH.cons (o := _) rfl (fun K hK => ?_) ?_
          ·
            have cg := GB.cell 1
            rw [Array.getElem?_append_left (by simp)] at cg
            simp at cg
            rw [if_pos (by rfl)]
            go_simp
            refine hK.out _ _ (hHeld) (fun hHeld => ?_)
            clear hK K
            try simp only [Act.put, List.setIfInBounds_toArray, List.set_cons_zero, List.set_cons_succ]
            refine wpAnyH_ready (rs := [6]) (by kernel_rfl) (by simp) ?_
            refine AllReadyH.cons (o := _) rfl (fun K hK => ?_) ?_
            ·
              go_simp
              refine (CopyBytes_s (.slice (some ⟨y, 0, none⟩) i i) i (gvf f k) _ (by omega) (Or.inr ⟨y, 0, i, rfl, Nat.le_refl _, by omega, BO1.lt, fun j _ => gvf_lt hfl j, fun j hj => by rw [Nat.zero_add, BO1.cell, yC_get _ _ _ hj]⟩)).mono ?_
              rintro e v7 ⟨x, rfl, OX, k7⟩
              obtain ⟨xg, xc, rfl, hxg, hxc, hxm, XB⟩ := OX.form hi0
              go_wp2_with fail
              refine hK.out _ _ (hHeld.trans1 k7.wide) (fun hHeld => ?_)
              clear hK K
              try simp only [Act.put, List.setIfInBounds_toArray, List.set_cons_zero, List.set_cons_succ]
              have v7sz := k7.size
              replace GB := GB.chg k7 (by simp)
              replace BO1 := BO1.chg k7 (by simp)
              replace LA1 := LA1.chg k7 (by simp)
              replace ywr : y ≤ v7.heap.size := Nat.le_trans ywr k7.size
              clear k7
              refine wpAnyH_ready (rs := [7]) (by kernel_rfl) (by simp) ?_
              refine AllReadyH.cons (o := _) rfl (fun K hK => ?_) ?_
              ·
                rw [if_pos (by rfl)]
                go_simp
                refine hK.out _ _ (hHeld.alloc _) (fun hHeld => ?_)
                clear hK K
                try simp only [Act.put, List.setIfInBounds_toArray, List.set_cons_zero, List.set_cons_succ]
                have AL := Blk.new v7 #[.slice (some ⟨xg, 0, none⟩) i xc] 22
                replace GB := GB.alloc (.cells #[.slice (some ⟨xg, 0, none⟩) i xc] 22)
                replace BO1 := BO1.alloc (.cells #[.slice (some ⟨xg, 0, none⟩) i xc] 22)
                replace LA1 := LA1.chg ((Chg.refl v7 []).alloc (.cells #[.slice (some ⟨xg, 0, none⟩) i xc] 22)) (by simp)
                replace OX := OX.chg ((Chg.refl v7 []).alloc (.cells #[.slice (some ⟨xg, 0, none⟩) i xc] 22)) (by simp)
                refine wpAnyH_ready (rs := [8]) (by kernel_rfl) (by simp) ?_
                refine AllReadyH.cons (o := _) rfl (fun K hK => ?_) ?_
                ·
                  rw [if_pos (by rfl)]
                  refine wp_append_own_wide _ (.tmp 50) (.tmp 53) 23 rfl y 22 inf (.slice none 0 0) 1 24 Tryd.underlying23 hinf hz hs1 hs2 rfl (by omega) (.slice none 0 0) 0 [] rfl (World.ownsRow_nil _ _ _ _) ⟨v7.heap.size, 0, none⟩ 1 1 [.slice (some ⟨xg, 0, none⟩) i xc] rfl rfl (fun j u hj => add_cell (by rw [Nat.zero_add, AL.cell]; simpa using hj)) (by simp [Value.oneCell']) (by simp [maxLen]) (by omega) (by simp; omega) ?_
                  intro lb w8 O8 G8 _
                  have LB : One w8 y lb (.slice (some ⟨xg, 0, none⟩) i xc) := O8
                  replace G8 : Chg (v7.alloc (.cells #[.slice (some ⟨xg, 0, none⟩) i xc] 22)) w8 [] := Chg.grown G8
                  obtain ⟨mg, mc, rfl, hmg1, hmg2, hmg3⟩ := LB.form
                  refine hK.out _ _ (hHeld.trans1 G8.wide) (fun hHeld => ?_)
                  clear hK K
                  try simp only [Act.put, List.setIfInBounds_toArray, List.set_cons_zero, List.set_cons_succ]
                  replace GB := GB.chg G8 (by simp)
                  replace BO1 := BO1.chg G8 (by simp)
                  replace LA1 := LA1.chg G8 (by simp)
                  replace OX := OX.chg G8 (by simp)
                  clear G8 O8 AL
                  refine take_val (v := ?_) 9 (some 55) rfl (by kernel_rfl) (by kernel_rfl) (by kernel_rfl) (fun _ _ _ h => h) rfl rfl (fun w hSw => ?_) hHeld ?_
                  rotate_left
                  · (go_simp; try with_reducible rfl)
                  try simp only [Act.put, List.setIfInBounds_toArray, List.set_cons_zero, List.set_cons_succ]
                  refine take_val (v := ?_) 10 (some 56) rfl (by kernel_rfl) (by kernel_rfl) (by kernel_rfl) (fun _ _ _ h => h) rfl rfl (fun w hSw => ?_) hHeld ?_
                  rotate_left
                  · (go_simp; try with_reducible rfl)
                  try simp only [Act.put, List.setIfInBounds_toArray, List.set_cons_zero, List.set_cons_succ]
                  refine wpAnyH_ready (rs := [11]) (by kernel_rfl) (by simp) ?_
                  refine AllReadyH.cons (o := _) rfl (fun K hK => ?_) ?_
                  ·
                    have cg := GB.cell 1
                    have fg := GB.frozen 1
                    rw [Array.getElem?_append_left (by simp)] at cg
                    simp at cg
                    rw [if_pos (by rfl)]
                    go_simp
                    refine hK.out _ _ (hHeld.setIn (by simp) _ _) (fun hHeld => ?_)
                    clear hK K
                    try simp only [Act.put, List.setIfInBounds_toArray, List.set_cons_zero, List.set_cons_succ]
                    refine wpAnyH_done (by kernel_rfl) ?_ _
                    have GB2 := (GB.setCell 1 (.slice (some ⟨mg, 0, none⟩) 1 mc)).to (by rw [Array.setIfInBounds_append_left (by simp)])
                    simp only [List.setIfInBounds_toArray, List.set_cons_zero, List.set_cons_succ] at GB2
                    have SC := (Chg.refl w8 [gb]).setIn (k := gb) (by simp) 1 (.slice (some ⟨mg, 0, none⟩) 1 mc)
                    have BO2 := BO1.chg SC (by simp; omega)
                    have LA2 := LA1.chg SC (by simp; omega)
                    have LB2 := LB.chg SC (by simp; omega)
                    have hxg2 : V.heap.size ≤ xg := hxg
                    have OX2 := (OX.chg SC (by simp [ob, Value.ownBlock]; omega)).base (base' := y) ywr0
                    have C9 := CV.trans1 hHeld
                    clear hHeld SC
                    have hki : (k : Int) ≤ (i : Int) := by omega
                    go_wp2_with fail
                    go_ret
                    have hY := HY.out
                    subst hY
                    exact ⟨_, rfl, w.heap.size, _, _, _, rfl, C9, Nat.le_refl _, BO2, OX2, LA2, LB2, GB2⟩
                  exact AllReadyH.nil
                exact AllReadyH.nil
              exact AllReadyH.nil
            exact AllReadyH.nil
          refine AllReadyH.cons (o := _) rfl (fun K hK => ?_) ?_
          ·
            go_simp
            refine (CopyBytes_s (.slice (some ⟨y, 0, none⟩) i i) i (gvf f k) _ (by omega) (Or.inr ⟨y, 0, i, rfl, Nat.le_refl _, by omega, BO1.lt, fun j _ => gvf_lt hfl j, fun j hj => by rw [Nat.zero_add, BO1.cell, yC_get _ _ _ hj]⟩)).mono ?_
            rintro e v7 ⟨x, rfl, OX, k7⟩
            obtain ⟨xg, xc, rfl, hxg, hxc, hxm, XB⟩ := OX.form hi0
            go_wp2_with fail
            refine hK.out _ _ (hHeld.trans1 k7.wide) (fun hHeld => ?_)
            clear hK K
            try simp only [Act.put, List.setIfInBounds_toArray, List.set_cons_zero, List.set_cons_succ]
            have v7sz := k7.size
            replace GB := GB.chg k7 (by simp)
            replace BO1 := BO1.chg k7 (by simp)
            replace LA1 := LA1.chg k7 (by simp)
            replace ywr : y ≤ v7.heap.size := Nat.le_trans ywr k7.size
            clear k7
            refine wpAnyH_ready (rs := [4, 7]) (by kernel_rfl) (by simp) ?_
            refine AllReadyH.cons (o := _) rfl (fun K hK => ?_) ?_
            ·
              have cg := GB.cell 1
              rw [Array.getElem?_append_left (by simp)] at cg
              simp at cg
              rw [if_pos (by rfl)]
              go_simp
              refine hK.out _ _ (hHeld) (fun hHeld => ?_)
              clear hK K
              try simp only [Act.put, List.setIfInBounds_toArray, List.set_cons_zero, List.set_cons_succ]
              refine wpAnyH_ready (rs := [7]) (by kernel_rfl) (by simp) ?_
              refine AllReadyH.cons (o := _) rfl (fun K hK => ?_) ?_
              ·
                rw [if_pos (by rfl)]
                go_simp
                refine hK.out _ _ (hHeld.alloc _) (fun hHeld => ?_)
                clear hK K
                try simp only [Act.put, List.setIfInBounds_toArray, List.set_cons_zero, List.set_cons_succ]
                have AL := Blk.new v7 #[.slice (some ⟨xg, 0, none⟩) i xc] 22
                replace GB := GB.alloc (.cells #[.slice (some ⟨xg, 0, none⟩) i xc] 22)
                replace BO1 := BO1.alloc (.cells #[.slice (some ⟨xg, 0, none⟩) i xc] 22)
                replace LA1 := LA1.chg ((Chg.refl v7 []).alloc (.cells #[.slice (some ⟨xg, 0, none⟩) i xc] 22)) (by simp)
                replace OX := OX.chg ((Chg.refl v7 []).alloc (.cells #[.slice (some ⟨xg, 0, none⟩) i xc] 22)) (by simp)
                refine wpAnyH_ready (rs := [8]) (by kernel_rfl) (by simp) ?_
                refine AllReadyH.cons (o := _) rfl (fun K hK => ?_) ?_
                ·
                  rw [if_pos (by rfl)]
                  refine wp_append_own_wide _ (.tmp 50) (.tmp 53) 23 rfl y 22 inf (.slice none 0 0) 1 24 Tryd.underlying23 hinf hz hs1 hs2 rfl (by omega) (.slice none 0 0) 0 [] rfl (World.ownsRow_nil _ _ _ _) ⟨v7.heap.size, 0, none⟩ 1 1 [.slice (some ⟨xg, 0, none⟩) i xc] rfl rfl (fun j u hj => add_cell (by rw [Nat.zero_add, AL.cell]; simpa using hj)) (by simp [Value.oneCell']) (by simp [maxLen]) (by omega) (by simp; omega) ?_
                  intro lb w8 O8 G8 _
                  have LB : One w8 y lb (.slice (some ⟨xg, 0, none⟩) i xc) := O8
                  replace G8 : Chg (v7.alloc (.cells #[.slice (some ⟨xg, 0, none⟩) i xc] 22)) w8 [] := Chg.grown G8
                  obtain ⟨mg, mc, rfl, hmg1, hmg2, hmg3⟩ := LB.form
                  refine hK.out _ _ (hHeld.trans1 G8.wide) (fun hHeld => ?_)
                  clear hK K
                  try simp only [Act.put, List.setIfInBounds_toArray, List.set_cons_zero, List.set_cons_succ]
                  replace GB := GB.chg G8 (by simp)
                  replace BO1 := BO1.chg G8 (by simp)
                  replace LA1 := LA1.chg G8 (by simp)
                  replace OX := OX.chg G8 (by simp)
                  clear G8 O8 AL
                  refine take_val (v := ?_) 9 (some 55) rfl (by kernel_rfl) (by kernel_rfl) (by kernel_rfl) (fun _ _ _ h => h) rfl rfl (fun w hSw => ?_) hHeld ?_
                  rotate_left
                  · (go_simp; try with_reducible rfl)
                  try simp only [Act.put, List.setIfInBounds_toArray, List.set_cons_zero, List.set_cons_succ]
                  refine take_val (v := ?_) 10 (some 56) rfl (by kernel_rfl) (by kernel_rfl) (by kernel_rfl) (fun _ _ _ h => h) rfl rfl (fun w hSw => ?_) hHeld ?_
                  rotate_left
                  · (go_simp; try with_reducible rfl)
                  try simp only [Act.put, List.setIfInBounds_toArray, List.set_cons_zero, List.set_cons_succ]
                  refine wpAnyH_ready (rs := [11]) (by kernel_rfl) (by simp) ?_
                  refine AllReadyH.cons (o := _) rfl (fun K hK => ?_) ?_
                  ·
                    have cg := GB.cell 1
                    have fg := GB.frozen 1
                    rw [Array.getElem?_append_left (by simp)] at cg
                    simp at cg
                    rw [if_pos (by rfl)]
                    go_simp
                    refine hK.out _ _ (hHeld.setIn (by simp) _ _) (fun hHeld => ?_)
                    clear hK K
                    try simp only [Act.put, List.setIfInBounds_toArray, List.set_cons_zero, List.set_cons_succ]
                    refine wpAnyH_done (by kernel_rfl) ?_ _
                    have GB2 := (GB.setCell 1 (.slice (some ⟨mg, 0, none⟩) 1 mc)).to (by rw [Array.setIfInBounds_append_left (by simp)])
                    simp only [List.setIfInBounds_toArray, List.set_cons_zero, List.set_cons_succ] at GB2
                    have SC := (Chg.refl w8 [gb]).setIn (k := gb) (by simp) 1 (.slice (some ⟨mg, 0, none⟩) 1 mc)
                    have BO2 := BO1.chg SC (by simp; omega)
                    have LA2 := LA1.chg SC (by simp; omega)
                    have LB2 := LB.chg SC (by simp; omega)
                    have hxg2 : V.heap.size ≤ xg := hxg
                    have OX2 := (OX.chg SC (by simp [ob, Value.ownBlock]; omega)).base (base' := y) ywr0
                    have C9 := CV.trans1 hHeld
                    clear hHeld SC
                    have hki : (k : Int) ≤ (i : Int) := by omega
                    go_wp2_with fail
                    go_ret
                    have hY := HY.out
                    subst hY
                    exact ⟨_, rfl, w.heap.size, _, _, _, rfl, C9, Nat.le_refl _, BO2, OX2, LA2, LB2, GB2⟩
                  exact AllReadyH.nil
                exact AllReadyH.nil
              exact AllReadyH.nil
            refine AllReadyH.cons (o := _) rfl (fun K hK => ?_) ?_
            ·
              rw [if_pos (by rfl)]
              go_simp
              refine hK.out _ _ (hHeld.alloc _) (fun hHeld => ?_)
              clear hK K
              try simp only [Act.put, List.setIfInBounds_toArray, List.set_cons_zero, List.set_cons_succ]
              have AL := Blk.new v7 #[.slice (some ⟨xg, 0, none⟩) i xc] 22
              replace GB := GB.alloc (.cells #[.slice (some ⟨xg, 0, none⟩) i xc] 22)
              replace BO1 := BO1.alloc (.cells #[.slice (some ⟨xg, 0, none⟩) i xc] 22)
              replace LA1 := LA1.chg ((Chg.refl v7 []).alloc (.cells #[.slice (some ⟨xg, 0, none⟩) i xc] 22)) (by simp)
              replace OX := OX.chg ((Chg.refl v7 []).alloc (.cells #[.slice (some ⟨xg, 0, none⟩) i xc] 22)) (by simp)
              refine wpAnyH_ready (rs := [4]) (by kernel_rfl) (by simp) ?_
              refine AllReadyH.cons (o := _) rfl (fun K hK => ?_) ?_
              ·
                have cg := GB.cell 1
                rw [Array.getElem?_append_left (by simp)] at cg
                simp at cg
                rw [if_pos (by rfl)]
                go_simp
                refine hK.out _ _ (hHeld) (fun hHeld => ?_)
                clear hK K
                try simp only [Act.put, List.setIfInBounds_toArray, List.set_cons_zero, List.set_cons_succ]
                refine wpAnyH_ready (rs := [8]) (by kernel_rfl) (by simp) ?_
                refine AllReadyH.cons (o := _) rfl (fun K hK => ?_) ?_
                ·
                  rw [if_pos (by rfl)]
                  refine wp_append_own_wide _ (.tmp 50) (.tmp 53) 23 rfl y 22 inf (.slice none 0 0) 1 24 Tryd.underlying23 hinf hz hs1 hs2 rfl (by omega) (.slice none 0 0) 0 [] rfl (World.ownsRow_nil _ _ _ _) ⟨v7.heap.size, 0, none⟩ 1 1 [.slice (some ⟨xg, 0, none⟩) i xc] rfl rfl (fun j u hj => add_cell (by rw [Nat.zero_add, AL.cell]; simpa using hj)) (by simp [Value.oneCell']) (by simp [maxLen]) (by omega) (by simp; omega) ?_
                  intro lb w8 O8 G8 _
                  have LB : One w8 y lb (.slice (some ⟨xg, 0, none⟩) i xc) := O8
                  replace G8 : Chg (v7.alloc (.cells #[.slice (some ⟨xg, 0, none⟩) i xc] 22)) w8 [] := Chg.grown G8
                  obtain ⟨mg, mc, rfl, hmg1, hmg2, hmg3⟩ := LB.form
                  refine hK.out _ _ (hHeld.trans1 G8.wide) (fun hHeld => ?_)
                  clear hK K
                  try simp only [Act.put, List.setIfInBounds_toArray, List.set_cons_zero, List.set_cons_succ]
                  replace GB := GB.chg G8 (by simp)
                  replace BO1 := BO1.chg G8 (by simp)
                  replace LA1 := LA1.chg G8 (by simp)
                  replace OX := OX.chg G8 (by simp)
                  clear G8 O8 AL
                  refine take_val (v := ?_) 9 (some 55) rfl (by kernel_rfl) (by kernel_rfl) (by kernel_rfl) (fun _ _ _ h => h) rfl rfl (fun w hSw => ?_) hHeld ?_
                  rotate_left
                  · (go_simp; try with_reducible rfl)
                  try simp only [Act.put, List.setIfInBounds_toArray, List.set_cons_zero, List.set_cons_succ]
                  refine take_val (v := ?_) 10 (some 56) rfl (by kernel_rfl) (by kernel_rfl) (by kernel_rfl) (fun _ _ _ h => h) rfl rfl (fun w hSw => ?_) hHeld ?_
                  rotate_left
                  · (go_simp; try with_reducible rfl)
                  try simp only [Act.put, List.setIfInBounds_toArray, List.set_cons_zero, List.set_cons_succ]
                  refine wpAnyH_ready (rs := [11]) (by kernel_rfl) (by simp) ?_
                  refine AllReadyH.cons (o := _) rfl (fun K hK => ?_) ?_
                  ·
                    have cg := GB.cell 1
                    have fg := GB.frozen 1
                    rw [Array.getElem?_append_left (by simp)] at cg
                    simp at cg
                    rw [if_pos (by rfl)]
                    go_simp
                    refine hK.out _ _ (hHeld.setIn (by simp) _ _) (fun hHeld => ?_)
                    clear hK K
                    try simp only [Act.put, List.setIfInBounds_toArray, List.set_cons_zero, List.set_cons_succ]
                    refine wpAnyH_done (by kernel_rfl) ?_ _
                    have GB2 := (GB.setCell 1 (.slice (some ⟨mg, 0, none⟩) 1 mc)).to (by rw [Array.setIfInBounds_append_left (by simp)])
                    simp only [List.setIfInBounds_toArray, List.set_cons_zero, List.set_cons_succ] at GB2
                    have SC := (Chg.refl w8 [gb]).setIn (k := gb) (by simp) 1 (.slice (some ⟨mg, 0, none⟩) 1 mc)
                    have BO2 := BO1.chg SC (by simp; omega)
                    have LA2 := LA1.chg SC (by simp; omega)
                    have LB2 := LB.chg SC (by simp; omega)
                    have hxg2 : V.heap.size ≤ xg := hxg
                    have OX2 := (OX.chg SC (by simp [ob, Value.ownBlock]; omega)).base (base' := y) ywr0
                    have C9 := CV.trans1 hHeld
                    clear hHeld SC
                    have hki : (k : Int) ≤ (i : Int) := by omega
                    go_wp2_with fail
                    go_ret
                    have hY := HY.out
                    subst hY
                    exact ⟨_, rfl, w.heap.size, _, _, _, rfl, C9, Nat.le_refl _, BO2, OX2, LA2, LB2, GB2⟩
                  exact AllReadyH.nil
                exact AllReadyH.nil
              exact AllReadyH.nil
            exact AllReadyH.nil
          exact AllReadyH.nil

theorem givenBytes_e3 (gb n : Nat) (v : Value) (f : Nat → Nat) (w : World) (hn : n ≤ 140737488355328) (hv : Se w v n f) (hg : Blk w gb (giC (.slice none 0 0) (.slice none 0 0)) 39) :
    Calls Tryd.prog 9 #[.pointer (some ⟨gb, 0, none⟩), v] w fun e w' => ∃ o, e = .returned (.slice (some ⟨o, 0, none⟩) n (n + 3)) ∧ w.heap.size ≤ o ∧ Bs w' o 0 n f ∧ GI w' gb w.heap.size w'.heap.size ∧ Chg w w' [gb] := by
  have hf := hv.lt256
  refine (GivenBytes_1e gb n v f (Array.replicate 28 (.slice none 0 0)) w hn hv (by rw [gC_rest]; exact hg)).mono ?_
  rintro e x2 ⟨r, rfl, o, la, lb, x, rfl, k, ho, bo, ox, ola, olb, bg⟩
  obtain ⟨lg, lc, rfl, p1, p2, cl⟩ := ola.form
  obtain ⟨mg, mc, rfl, p3, p4, cr⟩ := olb.form
  obtain ⟨xg, xc, rfl, p5, _, _, bx⟩ := ox.form (by omega)
  refine ⟨o, rfl, ho, ⟨bo.lt, hf, fun i hi => ?_⟩, ⟨n + 3, o, lg, lc, mg, mc, xg, xc, gvf f n, by omega, fun i _ => gvf_lt hf i, by unfold giC; exact bg, cl, cr, bo, bx, ⟨ho, bo.lt⟩, ⟨p1, p2⟩, ⟨p3, p4⟩, ⟨p5, bx.lt⟩, bg.lt, Nat.le_refl _⟩, k⟩
  rw [Nat.zero_add, bo.cell, yC_get _ _ _ (by omega)]
  unfold gvf
  rw [if_pos hi]
end Go.Proofs.YthpfdnkcepfbaaaDoor
