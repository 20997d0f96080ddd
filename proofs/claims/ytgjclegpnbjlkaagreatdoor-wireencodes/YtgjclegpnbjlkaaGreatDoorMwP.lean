/- Joined: Giv, GivB, GvBytes, SamB. -/
import Derived.Test.YtgjclegpnbjlkaaGreatDoorMwA
/- rimeplain: markBytes, CopyBytes, SameBytes; (*Given).Bytes. -/
set_option linter.unusedVariables false
set_option linter.unusedSimpArgs false
set_option linter.unnecessarySimpa false
namespace Go.Proofs.YtgjclegpnbjlkaaGreatDoor
open Go.RowKit

/-- The mark at place k. -/
def mkb (k : Nat) : Nat := (30602 + 7 * k) % 256
theorem mkb_lt (k : Nat) : mkb k < 256 := Nat.mod_lt _ (by decide)
theorem markBytes_s (k : Nat) (hk : k ≤ 140737488355331) (w : World) : Calls Tryz.prog 56 #[.int .i64 987, .int .i64 (k : Int)] w fun x w' => x = .returned (.int .u8 ((mkb k : Nat) : Int)) ∧ w' = w := by
  have e1 : IntKind.i64.wrap ((k : Int) * 7) = (k : Int) * 7 := by rw [IntKind.wrap_i64]; omega
  have e2 : IntKind.i64.wrap (30597 + (k : Int) * 7) = 30597 + (k : Int) * 7 := by rw [IntKind.wrap_i64]; omega
  have e3 : IntKind.i64.wrap (30597 + (k : Int) * 7 + 5) = 30597 + (k : Int) * 7 + 5 := by rw [IntKind.wrap_i64]; omega
  have e4 : IntKind.u8.wrap (30597 + (k : Int) * 7 + 5) = ((mkb k : Nat) : Int) := by rw [IntKind.wrap_u8']; unfold mkb; omega
  go_enter Tryz.func56, Tryz.ntmps56
  go_wp2
  go_ret
  exact ⟨by rw [← e4]; congr 2, rfl⟩
set_option maxHeartbeats 4000000 in
theorem CopyBytes_s (v : Value) (n : Nat) (f : Nat → Nat) (w : World) (hn : n ≤ 211106232532992) (hv : Sl w v n f) :
    Calls Tryz.prog 57 #[v] w fun e w' => ∃ v', e = .returned v' ∧ Own w' w.heap.size v' n f ∧ Chg w w' [] := by
  go_enter Tryz.func57, Tryz.ntmps57
  go_wp2_with (refine append_y rfl (.tmp 4) (.tmp 5) rfl w.heap.size (.slice none 0 0) v 0 n f f rfl rfl (Own.nil _ _ f) hv (by omega) (Nat.le_refl _) ?_; intro a1 w1 O1 q1; rw [Nat.zero_add, cat_zero] at O1; replace q1 : Chg w w1 [] := q1)
  go_ret
  exact ⟨a1, rfl, O1, q1⟩
set_option maxHeartbeats 4000000 in
set_option maxRecDepth 100000 in
theorem SameBytes_g (g o c g' o' c' n : Nat) (f f' : Nat → Nat) (w : World) (hn : n ≤ 9223372036854775807) (hb : Bs w g o n f) (hb' : Bs w g' o' n f') (hf : ∀ i, i < n → f i = f' i) :
    Calls Tryz.prog 10 #[.slice (some ⟨g, o, none⟩) n c, .slice (some ⟨g', o', none⟩) n c'] w fun e w' => e = .returned (.bool true) ∧ ∃ m, w' = w.drewN m := by
  go_enter Tryz.func10, Tryz.ntmps10
  go_wp2_with fail
  go_loopw [5] (fun t wr => ∃ i : Nat, i ≤ n ∧ t = .int .i64 (i : Int) ∧ ∃ m, wr = w.drewN m) (fun t _ => ((n : Int) - intOf t).toNat)
  case atStart => exact ⟨0, by omega, rfl, 0, rfl⟩
  case round =>
    obtain ⟨i, hi, rfl, q, rfl⟩ := hrel
    by_cases h8 : i < n
    · have hI : (i : Int) < (n : Int) := by omega
      have c1 := hb.cell i h8
      have c2 := hb'.cell i h8
      rw [← hf i h8] at c2
      have e1 : IntKind.i64.wrap ((i : Int) + 1) = (i : Int) + 1 := by rw [IntKind.wrap_i64]; omega
      generalize f i = x at *
      go_wp2_with fail
      go_quiet (fail)
      go_wp2_with fail
      exact ⟨⟨i + 1, by omega, by go_num, _, rfl⟩, by simp [intOf]; omega⟩
    · have hI : ¬ (i : Int) < (n : Int) := by omega
      go_wp2_with fail
      go_ret
      exact ⟨rfl, q, rfl⟩
end Go.Proofs.YtgjclegpnbjlkaaGreatDoor

/- (*Given).Bytes, called on a Given that has nothing yet. -/
namespace Go.Proofs.YtgjclegpnbjlkaaGreatDoor
open Go.RowKit

theorem make_yi (r : Nat) (hr : r ≤ 140737488355331) (W : World) : (Instr.makeSlice 29 (.int .i64 (r : Int)) (.int .i64 (r : Int))).run Tryz.prog W = .ok (.slice (some ⟨W.heap.size, 0, none⟩) r r) (W.alloc (.cells (yC r fun _ => 0) 5)) := by
  obtain ⟨i, hi, hz, h1, h2⟩ := u8Row
  have h := run_make (P := Tryz.prog) W 29 5 i (.int .u8 0) Tryz.underlying29 hi hz .i64 .i64 (r : Int) (r : Int) (by omega) (by omega) (by rw [h2]; omega) (by omega)
  rw [h, h1, Int.toNat_natCast, Nat.mul_one]
  show Result.ok _ (W.alloc (.cells (madeCells #[.int .u8 0] r) 5)) = _
  rw [made_y]
theorem listRow : ∃ i, Tryz.prog.info? 29 = some i ∧ i.zero = some (.slice none 0 0) ∧ i.size = 1 ∧ i.bytes = 24 := by
  have h : (Tryz.prog.info? 29).map (fun i => (i.zero, i.size, i.bytes)) = some (some (.slice none 0 0), 1, 24) := by kernel_rfl
  cases hi : Tryz.prog.info? 29 with
  | none => rw [hi] at h; simp at h
  | some i => rw [hi] at h; simp at h; exact ⟨i, rfl, h.1, h.2.1, h.2.2⟩
/-- The bytes of a copy that is handed in: those that came, and marks behind them. -/
def gvf (f : Nat → Nat) (n : Nat) : Nat → Nat := fun j => if j < n then f j else mkb j
def gv1 (i : Nat) : Nat → Nat := fun j => if j < i then mkb j else 0
def gv2 (f : Nat → Nat) (i : Nat) : Nat → Nat := fun j => if j < i then f j else mkb j
theorem gv1_step (i : Nat) : up (gv1 i) i (mkb i) = gv1 (i + 1) := by
  funext j; unfold up gv1
  by_cases h : j = i
  · subst h; rw [if_pos rfl, if_pos (by omega)]
  · rw [if_neg h]
    by_cases h2 : j < i
    · rw [if_pos h2, if_pos (by omega)]
    · rw [if_neg h2, if_neg (by omega)]
theorem gv2_step (f : Nat → Nat) (i : Nat) : up (gv2 f i) i (f i) = gv2 f (i + 1) := by
  funext j; unfold up gv2
  by_cases h : j = i
  · subst h; rw [if_pos rfl, if_pos (by omega)]
  · rw [if_neg h]
    by_cases h2 : j < i
    · rw [if_pos h2, if_pos (by omega)]
    · rw [if_neg h2, if_neg (by omega)]
theorem gvf_lt {f : Nat → Nat} {n : Nat} (h : ∀ i, i < n → f i < 256) (j : Nat) : gvf f n j < 256 := by
  unfold gvf
  by_cases hj : j < n
  · rw [if_pos hj]; exact h j hj
  · rw [if_neg hj]; exact mkb_lt j
/-- A list of one slice, of the call's own. -/
def One (w : World) (base : Nat) (l x : Value) : Prop := w.ownsRow base 29 1 l 1 [x]
theorem One.form {w : World} {base : Nat} {l x : Value} (h : One w base l x) : ∃ g c, l = .slice (some ⟨g, 0, none⟩) 1 c ∧ base ≤ g ∧ g < w.heap.size ∧ w.cell? ⟨g, 0, none⟩ = some x := by
  obtain ⟨_, h1⟩ := h
  rcases h1 with ⟨_, h1⟩ | ⟨g, cap, cur, rfl, hg, hh, hc, hm, hs, ht⟩
  · omega
  · refine ⟨g, cap, rfl, hg, (Array.getElem?_eq_some_iff.1 hh).1, ?_⟩
    have e := congrArg (fun l => l[0]?) ht
    rw [List.getElem?_take_of_lt (by omega), Array.getElem?_toList] at e
    simp [World.cell?, hh, e]
theorem One.chg {w w' : World} {base : Nat} {l x : Value} (h : One w base l x) {ch : List Nat} (hc : Chg w w' ch) (hb : ∀ i ∈ ch, i < base ∨ w.heap.size ≤ i) : One w' base l x := by
  obtain ⟨h0, h1⟩ := h
  refine ⟨h0, ?_⟩
  rcases h1 with h1 | ⟨g, cap, cur, rfl, hg, hh, hr⟩
  · exact Or.inl h1
  · refine Or.inr ⟨g, cap, cur, rfl, hg, ?_, hr⟩
    have hl := (Array.getElem?_eq_some_iff.1 hh).1
    rw [hc.block g hl (fun hi => by rcases hb g hi with h | h <;> omega)]
    exact hh
theorem sl_lt {w : World} {v : Value} {n : Nat} {f : Nat → Nat} (h : Sl w v n f) : ∀ i, i < n → f i < 256 := by
  rcases h with ⟨rfl, _⟩ | ⟨g, o, cap, _, _, _, hb⟩
  · intro i hi; omega
  · exact hb.bd

/-- What Bytes leaves: r, the copy that is handed in; its whole block; its twin x; both in the lists. -/
def GP (w w' : World) (gb n m : Nat) (f : Nat → Nat) (rest : Array Value) (r : Value) : Prop :=
  ∃ o la lb x, r = .slice (some ⟨o, 0, none⟩) n m ∧ Chg w w' [gb] ∧ w.heap.size ≤ o ∧ Blk w' o (yC m (gvf f n)) 5 ∧
      Own w' w.heap.size x m (gvf f n) ∧ One w' w.heap.size la (.slice (some ⟨o, 0, none⟩) m m) ∧ One w' w.heap.size lb x ∧ Blk w' gb (#[la, lb] ++ rest) 52
set_option maxHeartbeats 8000000 in
set_option maxRecDepth 100000 in
theorem GivenBytes_1 (gb n : Nat) (v : Value) (f : Nat → Nat) (rest : Array Value) (w : World) (hn : n ≤ 140737488355328) (hv : Sl w v n f) (hg : Blk w gb (#[.slice none 0 0, .slice none 0 0] ++ rest) 52) :
    Calls Tryz.prog 14 #[.pointer (some ⟨gb, 0, none⟩), v] w fun e w' => ∃ r, e = .returned r ∧ GP w w' gb n (n + 3) f rest r := by
  have hlen : ∃ p c, v = .slice p n c := by
    rcases hv with ⟨rfl, rfl⟩ | ⟨g, o, cap, rfl, _⟩
    · exact ⟨none, 0, rfl⟩
    · exact ⟨_, _, rfl⟩
  obtain ⟨vp, vc, rfl⟩ := hlen
  have hfl := sl_lt hv
  have gbl := hg.lt
  obtain ⟨m, hm⟩ : ∃ m, n + 3 = m := ⟨_, rfl⟩
  have HM : Hid (n + 3 = m) := hm
  have e1 : IntKind.i64.wrap ((n : Int) + 3) = (m : Int) := by rw [IntKind.wrap_i64]; omega
  have hmk := make_yi m (by omega)
  have B0 := Blk.new w (yC m fun _ => 0) 5
  have B1 : Blk (w.alloc (.cells (yC m fun _ => 0) 5)) w.heap.size (yC m (gv1 0)) 5 := B0.to (yC_eq fun j _ => (if_neg (by omega)).symm)
  have C1 := (Chg.refl w []).alloc (.cells (yC m fun _ => 0) 5)
  have hnm : n < m := by omega
  have hmb : m ≤ 140737488355331 := by omega
  rw [hm]
  clear hm B0 hn
  go_enter Tryz.func14, Tryz.ntmps14
  go_wp2_with fail
  clear hmk
  go_loopw [6] (fun t wr => ∃ i : Nat, i ≤ m ∧ t = .int .i64 (i : Int) ∧ Blk wr w.heap.size (yC m (gv1 i)) 5 ∧ Chg w wr []) (fun t _ => ((m : Int) - intOf t).toNat)
  case atStart => exact ⟨0, by omega, rfl, B1, C1⟩
  case round =>
    clear B1 C1
    obtain ⟨i, hi, rfl, b0, c0⟩ := hrel
    by_cases h8 : i < m
    · have hI : (i : Int) < (m : Int) := by omega
      have e2 : IntKind.i64.wrap ((i : Int) + 1) = (i : Int) + 1 := by rw [IntKind.wrap_i64]; omega
      have ck := (b0.cell i).trans (yC_get m _ i h8)
      have fk := b0.frozen i
      have b1 := (b0.setCell i (.int .u8 ((mkb i : Nat) : Int))).to (by rw [yC_set, gv1_step])
      have c1 := c0.setNew (Nat.le_refl _) i (.int .u8 ((mkb i : Nat) : Int))
      go_wp2_with fail
      refine (markBytes_s i (by omega) _).mono ?_
      rintro e v1 ⟨rfl, rfl⟩
      go_wp2_with fail
      exact ⟨⟨i + 1, by omega, by go_num, b1, c1⟩, by simp [intOf]; omega⟩
    · have h9 : i = m := by omega
      subst h9
      have hI : ¬ (i : Int) < (i : Int) := by omega
      go_wp2_with fail
      have B2 : Blk wr w.heap.size (yC i (gv2 f 0)) 5 := b0.to (yC_eq fun j hj => by unfold gv1 gv2; rw [if_pos hj, if_neg (by omega)])
      go_loopw [7] (fun t wr => ∃ k : Nat, k ≤ n ∧ t = .int .i64 (k : Int) ∧ Blk wr w.heap.size (yC i (gv2 f k)) 5 ∧ Chg w wr []) (fun t _ => ((n : Int) - intOf t).toNat)
      case atStart => exact ⟨0, by omega, rfl, B2, c0⟩
      case round =>
        clear B2 c0 b0
        obtain ⟨k, hk, rfl, b0, c0⟩ := hrel
        by_cases h8 : k < n
        · have hI1 : (k : Int) < (n : Int) := by omega
          have hI2 : (k : Int) < (i : Int) := by omega
          have e2 : IntKind.i64.wrap ((k : Int) + 1) = (k : Int) + 1 := by rw [IntKind.wrap_i64]; omega
          have ck := (b0.cell k).trans (yC_get i _ k (by omega))
          have fk := b0.frozen k
          have b1 := (b0.setCell k (.int .u8 ((f k : Nat) : Int))).to (by rw [yC_set, gv2_step])
          have c1 := c0.setNew (Nat.le_refl _) k (.int .u8 ((f k : Nat) : Int))
          have hvc := hv.chg c0 (Off.nil _)
          rcases hvc with ⟨h0, _⟩ | ⟨g, o, cap, he, _, _, hb⟩
          · omega
          · simp only [Value.slice.injEq] at he
            obtain ⟨rfl, _, rfl⟩ := he
            have cl := hb.cell k h8
            go_wp2_with fail
            exact ⟨⟨k + 1, by omega, by go_num, b1, c1⟩, by simp [intOf]; omega⟩
        · have h9 : k = n := by omega
          subst h9
          have hI1 : ¬ (k : Int) < (k : Int) := by omega
          obtain ⟨y, hy⟩ : ∃ y, w.heap.size = y := ⟨_, rfl⟩
          have HY : Hid (w.heap.size = y) := hy
          have BO : Blk wr y (yC i (gvf f k)) 5 := hy ▸ b0
          rw [hy] at gbl
          rw [hy]
          clear hy b0 hv
          have ylt := BO.lt
          have wsz := c0.size
          have hg1 := hg.chg c0 (by simp)
          have cg0 := hg1.cell 0
          rw [Array.getElem?_append_left (by simp)] at cg0
          simp at cg0
          have hi0 : 0 < i := by omega
          obtain ⟨inf, hinf, hz, hs1, hs2⟩ := listRow
          have AL := Blk.new wr #[.slice (some ⟨y, 0, none⟩) i i] 29
          have hnw : ∀ j u, ([.slice (some ⟨y, 0, none⟩) i i] : List Value)[j]? = some u → (wr.alloc (.cells #[.slice (some ⟨y, 0, none⟩) i i] 29)).cell? ((⟨wr.heap.size, 0, none⟩ : Addr).add j) = some u := by
            intro j u hj
            refine add_cell ?_
            rw [Nat.zero_add, AL.cell]
            simpa using hj
          have HNW : Hid (∀ j u, ([.slice (some ⟨y, 0, none⟩) i i] : List Value)[j]? = some u → (wr.alloc (.cells #[.slice (some ⟨y, 0, none⟩) i i] 29)).cell? ((⟨wr.heap.size, 0, none⟩ : Addr).add j) = some u) := hnw
          clear hnw AL
          go_wp2_with (refine wpList_append_own_wide _ rfl (.tmp 40) (.tmp 42) 36 rfl y 29 inf (.slice none 0 0) 1 24 Tryz.underlying36 hinf hz hs1 hs2 rfl (by omega) (.slice none 0 0) 0 [] rfl (World.ownsRow_nil _ _ _ _) ⟨wr.heap.size, 0, none⟩ 1 1 [.slice (some ⟨y, 0, none⟩) i i] rfl rfl HNW.out (by simp [Value.oneCell']) (by simp [maxLen]) (by omega) (by have := HY.out; simp; omega) ?_
                       intro la w1 O1 G1 _
                       have LA : One w1 y la (.slice (some ⟨y, 0, none⟩) i i) := O1
                       replace G1 : Chg (wr.alloc (.cells #[.slice (some ⟨y, 0, none⟩) i i] 29)) w1 [] := Chg.grown G1
                       have GB0 := (hg1.alloc (.cells #[.slice (some ⟨y, 0, none⟩) i i] 29)).chg G1 (by simp)
                       have cgb := GB0.cell 0
                       have fgb := GB0.frozen 0
                       rw [Array.getElem?_append_left (by simp)] at cgb
                       simp at cgb
                       obtain ⟨lg, lc, rfl, hlg1, hlg2, hlg3⟩ := LA.form)
          have GB := (GB0.setCell 0 (.slice (some ⟨lg, 0, none⟩) 1 lc)).to (by rw [Array.setIfInBounds_append_left (by simp)])
          simp only [List.setIfInBounds_toArray, List.set_cons_zero] at GB
          have BO1 := ((BO.alloc (.cells #[.slice (some ⟨y, 0, none⟩) i i] 29)).chg G1 (by simp)).setOther (show ¬ y = gb by omega) 0 (.slice (some ⟨lg, 0, none⟩) 1 lc)
          have LA1 := LA.chg ((Chg.refl w1 [gb]).setIn (k := gb) (by simp) 0 (.slice (some ⟨lg, 0, none⟩) 1 lc)) (by simp; omega)
          have CV := (((c0.wide (l := [gb])).alloc (.cells #[.slice (some ⟨y, 0, none⟩) i i] 29)).trans1 G1.wide).setIn (k := gb) (by simp) 0 (.slice (some ⟨lg, 0, none⟩) 1 lc)
          have ywr : y ≤ (w1.setCell ⟨gb, 0, none⟩ (.slice (some ⟨lg, 0, none⟩) 1 lc)).heap.size := Nat.le_of_lt BO1.lt
          clear cgb fgb GB0 LA O1 G1 hg1 cg0 BO c0 HNW hlg3
          generalize w1.setCell ⟨gb, 0, none⟩ (.slice (some ⟨lg, 0, none⟩) 1 lc) = V at *
          clear hlg2
          have ywr0 : y ≤ V.heap.size := ywr
          refine wp_region_held_drew (S := fun w' => Chg V w' [gb]) (by kernel_rfl) ((Chg.refl V _).drew) (fun hHeld => ?_)
          replace GB := GB.drew
          replace BO1 := BO1.drew
          replace LA1 := LA1.chg ((Chg.refl V []).drew) (by simp)
          refine take_val (v := ?_) 0 (some 46) rfl (by kernel_rfl) (by kernel_rfl) (by kernel_rfl) (fun _ _ _ h => h) rfl rfl (fun w hSw => ?_) hHeld ?_
          rotate_left
          · (go_simp; try with_reducible rfl)
          try simp only [Act.put, List.setIfInBounds_toArray, List.set_cons_zero, List.set_cons_succ]
          refine take_val (v := ?_) 1 (some 47) rfl (by kernel_rfl) (by kernel_rfl) (by kernel_rfl) (fun _ _ _ h => h) rfl rfl (fun w hSw => ?_) hHeld ?_
          rotate_left
          · (go_simp; try with_reducible rfl)
          try simp only [Act.put, List.setIfInBounds_toArray, List.set_cons_zero, List.set_cons_succ]
          refine take_val (v := ?_) 2 (some 48) rfl (by kernel_rfl) (by kernel_rfl) (by kernel_rfl) (fun _ _ _ h => h) rfl rfl (fun w hSw => ?_) hHeld ?_
          rotate_left
          · (go_simp; try with_reducible rfl)
          try simp only [Act.put, List.setIfInBounds_toArray, List.set_cons_zero, List.set_cons_succ]
          refine take_val (v := ?_) 3 (some 49) rfl (by kernel_rfl) (by kernel_rfl) (by kernel_rfl) (fun _ _ _ h => h) rfl rfl (fun w hSw => ?_) hHeld ?_
          rotate_left
          · (go_simp; try with_reducible rfl)
          try simp only [Act.put, List.setIfInBounds_toArray, List.set_cons_zero, List.set_cons_succ]
          refine take_val (v := ?_) 5 (some 51) rfl (by kernel_rfl) (by kernel_rfl) (by kernel_rfl) (fun _ _ _ h => h) rfl rfl (fun w hSw => ?_) hHeld ?_
          rotate_left
          · (go_simp; try with_reducible rfl)
          try simp only [Act.put, List.setIfInBounds_toArray, List.set_cons_zero, List.set_cons_succ]
          refine wpAnyH_ready (rs := [4, 6]) (by kernel_rfl) (by simp) ?_
          refine AllReadyH.cons (o := _) rfl (fun K hK => ?_) ?_
          ·
            have cg := GB.cell 1
            rw [Array.getElem?_append_left (by simp)] at cg
            simp at cg
            rw [if_pos (by rfl)]
            go_simp
            refine hK.out _ _ (hHeld) (fun hHeld => ?_)
            clear hK K
            try simp only [Act.put, List.setIfInBounds_toArray, List.set_cons_zero, List.set_cons_succ]
            refine wpAnyH_ready (rs := [6]) (by kernel_rfl) (by simp) ?_
            refine AllReadyH.cons (o := _) rfl (fun K hK => ?_) ?_
            ·
              go_simp
              refine (CopyBytes_s (.slice (some ⟨y, 0, none⟩) i i) i (gvf f k) _ (by omega) (Or.inr ⟨y, 0, i, rfl, Nat.le_refl _, by omega, BO1.lt, fun j _ => gvf_lt hfl j, fun j hj => by rw [Nat.zero_add, BO1.cell, yC_get _ _ _ hj]⟩)).mono ?_
              rintro e v7 ⟨x, rfl, OX, k7⟩
              obtain ⟨xg, xc, rfl, hxg, hxc, hxm, XB⟩ := OX.form hi0
              go_wp2_with fail
              refine hK.out _ _ (hHeld.trans1 k7.wide) (fun hHeld => ?_)
              clear hK K
              try simp only [Act.put, List.setIfInBounds_toArray, List.set_cons_zero, List.set_cons_succ]
              have v7sz := k7.size
              replace GB := GB.chg k7 (by simp)
              replace BO1 := BO1.chg k7 (by simp)
              replace LA1 := LA1.chg k7 (by simp)
              replace ywr : y ≤ v7.heap.size := Nat.le_trans ywr k7.size
              clear k7
              refine wpAnyH_ready (rs := [7]) (by kernel_rfl) (by simp) ?_
              refine AllReadyH.cons (o := _) rfl (fun K hK => ?_) ?_
              ·
                rw [if_pos (by rfl)]
                go_simp
                refine hK.out _ _ (hHeld.alloc _) (fun hHeld => ?_)
                clear hK K
                try simp only [Act.put, List.setIfInBounds_toArray, List.set_cons_zero, List.set_cons_succ]
                have AL := Blk.new v7 #[.slice (some ⟨xg, 0, none⟩) i xc] 29
                replace GB := GB.alloc (.cells #[.slice (some ⟨xg, 0, none⟩) i xc] 29)
                replace BO1 := BO1.alloc (.cells #[.slice (some ⟨xg, 0, none⟩) i xc] 29)
                replace LA1 := LA1.chg ((Chg.refl v7 []).alloc (.cells #[.slice (some ⟨xg, 0, none⟩) i xc] 29)) (by simp)
                replace OX := OX.chg ((Chg.refl v7 []).alloc (.cells #[.slice (some ⟨xg, 0, none⟩) i xc] 29)) (by simp)
                refine wpAnyH_ready (rs := [8]) (by kernel_rfl) (by simp) ?_
                refine AllReadyH.cons (o := _) rfl (fun K hK => ?_) ?_
                ·
                  rw [if_pos (by rfl)]
                  refine wp_append_own_wide _ (.tmp 50) (.tmp 53) 36 rfl y 29 inf (.slice none 0 0) 1 24 Tryz.underlying36 hinf hz hs1 hs2 rfl (by omega) (.slice none 0 0) 0 [] rfl (World.ownsRow_nil _ _ _ _) ⟨v7.heap.size, 0, none⟩ 1 1 [.slice (some ⟨xg, 0, none⟩) i xc] rfl rfl (fun j u hj => add_cell (by rw [Nat.zero_add, AL.cell]; simpa using hj)) (by simp [Value.oneCell']) (by simp [maxLen]) (by omega) (by simp; omega) ?_
                  intro lb w8 O8 G8 _
                  have LB : One w8 y lb (.slice (some ⟨xg, 0, none⟩) i xc) := O8
                  replace G8 : Chg (v7.alloc (.cells #[.slice (some ⟨xg, 0, none⟩) i xc] 29)) w8 [] := Chg.grown G8
                  obtain ⟨mg, mc, rfl, hmg1, hmg2, hmg3⟩ := LB.form
                  refine hK.out _ _ (hHeld.trans1 G8.wide) (fun hHeld => ?_)
                  clear hK K
                  try simp only [Act.put, List.setIfInBounds_toArray, List.set_cons_zero, List.set_cons_succ]
                  replace GB := GB.chg G8 (by simp)
                  replace BO1 := BO1.chg G8 (by simp)
                  replace LA1 := LA1.chg G8 (by simp)
                  replace OX := OX.chg G8 (by simp)
                  clear G8 O8 AL
                  refine take_val (v := ?_) 9 (some 55) rfl (by kernel_rfl) (by kernel_rfl) (by kernel_rfl) (fun _ _ _ h => h) rfl rfl (fun w hSw => ?_) hHeld ?_
                  rotate_left
                  · (go_simp; try with_reducible rfl)
                  try simp only [Act.put, List.setIfInBounds_toArray, List.set_cons_zero, List.set_cons_succ]
                  refine take_val (v := ?_) 10 (some 56) rfl (by kernel_rfl) (by kernel_rfl) (by kernel_rfl) (fun _ _ _ h => h) rfl rfl (fun w hSw => ?_) hHeld ?_
                  rotate_left
                  · (go_simp; try with_reducible rfl)
                  try simp only [Act.put, List.setIfInBounds_toArray, List.set_cons_zero, List.set_cons_succ]
                  refine wpAnyH_ready (rs := [11]) (by kernel_rfl) (by simp) ?_
                  refine AllReadyH.cons (o := _) rfl (fun K hK => ?_) ?_
                  ·
                    have cg := GB.cell 1
                    have fg := GB.frozen 1
                    rw [Array.getElem?_append_left (by simp)] at cg
                    simp at cg
                    rw [if_pos (by rfl)]
                    go_simp
                    refine hK.out _ _ (hHeld.setIn (by simp) _ _) (fun hHeld => ?_)
                    clear hK K
                    try simp only [Act.put, List.setIfInBounds_toArray, List.set_cons_zero, List.set_cons_succ]
                    refine wpAnyH_done (by kernel_rfl) ?_ _
                    have GB2 := (GB.setCell 1 (.slice (some ⟨mg, 0, none⟩) 1 mc)).to (by rw [Array.setIfInBounds_append_left (by simp)])
                    simp only [List.setIfInBounds_toArray, List.set_cons_zero, List.set_cons_succ] at GB2
                    have SC := (Chg.refl w8 [gb]).setIn (k := gb) (by simp) 1 (.slice (some ⟨mg, 0, none⟩) 1 mc)
                    have BO2 := BO1.chg SC (by simp; omega)
                    have LA2 := LA1.chg SC (by simp; omega)
                    have LB2 := LB.chg SC (by simp; omega)
                    have hxg2 : V.heap.size ≤ xg := hxg
                    have OX2 := (OX.chg SC (by simp [ob, Value.ownBlock]; omega)).base (base' := y) ywr0
                    have C9 := CV.trans1 hHeld
                    clear hHeld SC
                    have hki : (k : Int) ≤ (i : Int) := by omega
                    go_wp2_with fail
                    go_ret
                    have hY := HY.out
                    subst hY
                    exact ⟨_, rfl, w.heap.size, _, _, _, rfl, C9, Nat.le_refl _, BO2, OX2, LA2, LB2, GB2⟩
                  exact AllReadyH.nil
                exact AllReadyH.nil
              exact AllReadyH.nil
            exact AllReadyH.nil
          refine AllReadyH.cons (o := _) rfl (fun K hK => ?_) ?_
          ·
            go_simp
            refine (CopyBytes_s (.slice (some ⟨y, 0, none⟩) i i) i (gvf f k) _ (by omega) (Or.inr ⟨y, 0, i, rfl, Nat.le_refl _, by omega, BO1.lt, fun j _ => gvf_lt hfl j, fun j hj => by rw [Nat.zero_add, BO1.cell, yC_get _ _ _ hj]⟩)).mono ?_
            rintro e v7 ⟨x, rfl, OX, k7⟩
            obtain ⟨xg, xc, rfl, hxg, hxc, hxm, XB⟩ := OX.form hi0
            go_wp2_with fail
            refine hK.out _ _ (hHeld.trans1 k7.wide) (fun hHeld => ?_)
            clear hK K
            try simp only [Act.put, List.setIfInBounds_toArray, List.set_cons_zero, List.set_cons_succ]
            have v7sz := k7.size
            replace GB := GB.chg k7 (by simp)
            replace BO1 := BO1.chg k7 (by simp)
            replace LA1 := LA1.chg k7 (by simp)
            replace ywr : y ≤ v7.heap.size := Nat.le_trans ywr k7.size
            clear k7
            refine wpAnyH_ready (rs := [4, 7]) (by kernel_rfl) (by simp) ?_
            refine AllReadyH.cons (o := _) rfl (fun K hK => ?_) ?_
            ·
              have cg := GB.cell 1
              rw [Array.getElem?_append_left (by simp)] at cg
              simp at cg
              rw [if_pos (by rfl)]
              go_simp
              refine hK.out _ _ (hHeld) (fun hHeld => ?_)
              clear hK K
              try simp only [Act.put, List.setIfInBounds_toArray, List.set_cons_zero, List.set_cons_succ]
              refine wpAnyH_ready (rs := [7]) (by kernel_rfl) (by simp) ?_
              refine AllReadyH.cons (o := _) rfl (fun K hK => ?_) ?_
              ·
                rw [if_pos (by rfl)]
                go_simp
                refine hK.out _ _ (hHeld.alloc _) (fun hHeld => ?_)
                clear hK K
                try simp only [Act.put, List.setIfInBounds_toArray, List.set_cons_zero, List.set_cons_succ]
                have AL := Blk.new v7 #[.slice (some ⟨xg, 0, none⟩) i xc] 29
                replace GB := GB.alloc (.cells #[.slice (some ⟨xg, 0, none⟩) i xc] 29)
                replace BO1 := BO1.alloc (.cells #[.slice (some ⟨xg, 0, none⟩) i xc] 29)
                replace LA1 := LA1.chg ((Chg.refl v7 []).alloc (.cells #[.slice (some ⟨xg, 0, none⟩) i xc] 29)) (by simp)
                replace OX := OX.chg ((Chg.refl v7 []).alloc (.cells #[.slice (some ⟨xg, 0, none⟩) i xc] 29)) (by simp)
                refine wpAnyH_ready (rs := [8]) (by kernel_rfl) (by simp) ?_
                refine AllReadyH.cons (o := _) rfl (fun K hK => ?_) ?_
                ·
                  rw [if_pos (by rfl)]
                  refine wp_append_own_wide _ (.tmp 50) (.tmp 53) 36 rfl y 29 inf (.slice none 0 0) 1 24 Tryz.underlying36 hinf hz hs1 hs2 rfl (by omega) (.slice none 0 0) 0 [] rfl (World.ownsRow_nil _ _ _ _) ⟨v7.heap.size, 0, none⟩ 1 1 [.slice (some ⟨xg, 0, none⟩) i xc] rfl rfl (fun j u hj => add_cell (by rw [Nat.zero_add, AL.cell]; simpa using hj)) (by simp [Value.oneCell']) (by simp [maxLen]) (by omega) (by simp; omega) ?_
                  intro lb w8 O8 G8 _
                  have LB : One w8 y lb (.slice (some ⟨xg, 0, none⟩) i xc) := O8
                  replace G8 : Chg (v7.alloc (.cells #[.slice (some ⟨xg, 0, none⟩) i xc] 29)) w8 [] := Chg.grown G8
                  obtain ⟨mg, mc, rfl, hmg1, hmg2, hmg3⟩ := LB.form
                  refine hK.out _ _ (hHeld.trans1 G8.wide) (fun hHeld => ?_)
                  clear hK K
                  try simp only [Act.put, List.setIfInBounds_toArray, List.set_cons_zero, List.set_cons_succ]
                  replace GB := GB.chg G8 (by simp)
                  replace BO1 := BO1.chg G8 (by simp)
                  replace LA1 := LA1.chg G8 (by simp)
                  replace OX := OX.chg G8 (by simp)
                  clear G8 O8 AL
                  refine take_val (v := ?_) 9 (some 55) rfl (by kernel_rfl) (by kernel_rfl) (by kernel_rfl) (fun _ _ _ h => h) rfl rfl (fun w hSw => ?_) hHeld ?_
                  rotate_left
                  · (go_simp; try with_reducible rfl)
                  try simp only [Act.put, List.setIfInBounds_toArray, List.set_cons_zero, List.set_cons_succ]
                  refine take_val (v := ?_) 10 (some 56) rfl (by kernel_rfl) (by kernel_rfl) (by kernel_rfl) (fun _ _ _ h => h) rfl rfl (fun w hSw => ?_) hHeld ?_
                  rotate_left
                  · (go_simp; try with_reducible rfl)
                  try simp only [Act.put, List.setIfInBounds_toArray, List.set_cons_zero, List.set_cons_succ]
                  refine wpAnyH_ready (rs := [11]) (by kernel_rfl) (by simp) ?_
                  refine AllReadyH.cons (o := _) rfl (fun K hK => ?_) ?_
                  ·
                    have cg := GB.cell 1
                    have fg := GB.frozen 1
                    rw [Array.getElem?_append_left (by simp)] at cg
                    simp at cg
                    rw [if_pos (by rfl)]
                    go_simp
                    refine hK.out _ _ (hHeld.setIn (by simp) _ _) (fun hHeld => ?_)
                    clear hK K
                    try simp only [Act.put, List.setIfInBounds_toArray, List.set_cons_zero, List.set_cons_succ]
                    refine wpAnyH_done (by kernel_rfl) ?_ _
                    have GB2 := (GB.setCell 1 (.slice (some ⟨mg, 0, none⟩) 1 mc)).to (by rw [Array.setIfInBounds_append_left (by simp)])
                    simp only [List.setIfInBounds_toArray, List.set_cons_zero, List.set_cons_succ] at GB2
                    have SC := (Chg.refl w8 [gb]).setIn (k := gb) (by simp) 1 (.slice (some ⟨mg, 0, none⟩) 1 mc)
                    have BO2 := BO1.chg SC (by simp; omega)
                    have LA2 := LA1.chg SC (by simp; omega)
                    have LB2 := LB.chg SC (by simp; omega)
                    have hxg2 : V.heap.size ≤ xg := hxg
                    have OX2 := (OX.chg SC (by simp [ob, Value.ownBlock]; omega)).base (base' := y) ywr0
                    have C9 := CV.trans1 hHeld
                    clear hHeld SC
                    have hki : (k : Int) ≤ (i : Int) := by omega
                    go_wp2_with fail
                    go_ret
                    have hY := HY.out
                    subst hY
                    exact ⟨_, rfl, w.heap.size, _, _, _, rfl, C9, Nat.le_refl _, BO2, OX2, LA2, LB2, GB2⟩
                  exact AllReadyH.nil
                exact AllReadyH.nil
              exact AllReadyH.nil
            refine AllReadyH.cons (o := _) rfl (fun K hK => ?_) ?_
            ·
              rw [if_pos (by rfl)]
              go_simp
              refine hK.out _ _ (hHeld.alloc _) (fun hHeld => ?_)
              clear hK K
              try simp only [Act.put, List.setIfInBounds_toArray, List.set_cons_zero, List.set_cons_succ]
              have AL := Blk.new v7 #[.slice (some ⟨xg, 0, none⟩) i xc] 29
              replace GB := GB.alloc (.cells #[.slice (some ⟨xg, 0, none⟩) i xc] 29)
              replace BO1 := BO1.alloc (.cells #[.slice (some ⟨xg, 0, none⟩) i xc] 29)
              replace LA1 := LA1.chg ((Chg.refl v7 []).alloc (.cells #[.slice (some ⟨xg, 0, none⟩) i xc] 29)) (by simp)
              replace OX := OX.chg ((Chg.refl v7 []).alloc (.cells #[.slice (some ⟨xg, 0, none⟩) i xc] 29)) (by simp)
              refine wpAnyH_ready (rs := [4]) (by kernel_rfl) (by simp) ?_
              refine AllReadyH.cons (o := _) rfl (fun K hK => ?_) ?_
              ·
                have cg := GB.cell 1
                rw [Array.getElem?_append_left (by simp)] at cg
                simp at cg
                rw [if_pos (by rfl)]
                go_simp
                refine hK.out _ _ (hHeld) (fun hHeld => ?_)
                clear hK K
                try simp only [Act.put, List.setIfInBounds_toArray, List.set_cons_zero, List.set_cons_succ]
                refine wpAnyH_ready (rs := [8]) (by kernel_rfl) (by simp) ?_
                refine AllReadyH.cons (o := _) rfl (fun K hK => ?_) ?_
                ·
                  rw [if_pos (by rfl)]
                  refine wp_append_own_wide _ (.tmp 50) (.tmp 53) 36 rfl y 29 inf (.slice none 0 0) 1 24 Tryz.underlying36 hinf hz hs1 hs2 rfl (by omega) (.slice none 0 0) 0 [] rfl (World.ownsRow_nil _ _ _ _) ⟨v7.heap.size, 0, none⟩ 1 1 [.slice (some ⟨xg, 0, none⟩) i xc] rfl rfl (fun j u hj => add_cell (by rw [Nat.zero_add, AL.cell]; simpa using hj)) (by simp [Value.oneCell']) (by simp [maxLen]) (by omega) (by simp; omega) ?_
                  intro lb w8 O8 G8 _
                  have LB : One w8 y lb (.slice (some ⟨xg, 0, none⟩) i xc) := O8
                  replace G8 : Chg (v7.alloc (.cells #[.slice (some ⟨xg, 0, none⟩) i xc] 29)) w8 [] := Chg.grown G8
                  obtain ⟨mg, mc, rfl, hmg1, hmg2, hmg3⟩ := LB.form
                  refine hK.out _ _ (hHeld.trans1 G8.wide) (fun hHeld => ?_)
                  clear hK K
                  try simp only [Act.put, List.setIfInBounds_toArray, List.set_cons_zero, List.set_cons_succ]
                  replace GB := GB.chg G8 (by simp)
                  replace BO1 := BO1.chg G8 (by simp)
                  replace LA1 := LA1.chg G8 (by simp)
                  replace OX := OX.chg G8 (by simp)
                  clear G8 O8 AL
                  refine take_val (v := ?_) 9 (some 55) rfl (by kernel_rfl) (by kernel_rfl) (by kernel_rfl) (fun _ _ _ h => h) rfl rfl (fun w hSw => ?_) hHeld ?_
                  rotate_left
                  · (go_simp; try with_reducible rfl)
                  try simp only [Act.put, List.setIfInBounds_toArray, List.set_cons_zero, List.set_cons_succ]
                  refine take_val (v := ?_) 10 (some 56) rfl (by kernel_rfl) (by kernel_rfl) (by kernel_rfl) (fun _ _ _ h => h) rfl rfl (fun w hSw => ?_) hHeld ?_
                  rotate_left
                  · (go_simp; try with_reducible rfl)
                  try simp only [Act.put, List.setIfInBounds_toArray, List.set_cons_zero, List.set_cons_succ]
                  refine wpAnyH_ready (rs := [11]) (by kernel_rfl) (by simp) ?_
                  refine AllReadyH.cons (o := _) rfl (fun K hK => ?_) ?_
                  ·
                    have cg := GB.cell 1
                    have fg := GB.frozen 1
                    rw [Array.getElem?_append_left (by simp)] at cg
                    simp at cg
                    rw [if_pos (by rfl)]
                    go_simp
                    refine hK.out _ _ (hHeld.setIn (by simp) _ _) (fun hHeld => ?_)
                    clear hK K
                    try simp only [Act.put, List.setIfInBounds_toArray, List.set_cons_zero, List.set_cons_succ]
                    refine wpAnyH_done (by kernel_rfl) ?_ _
                    have GB2 := (GB.setCell 1 (.slice (some ⟨mg, 0, none⟩) 1 mc)).to (by rw [Array.setIfInBounds_append_left (by simp)])
                    simp only [List.setIfInBounds_toArray, List.set_cons_zero, List.set_cons_succ] at GB2
                    have SC := (Chg.refl w8 [gb]).setIn (k := gb) (by simp) 1 (.slice (some ⟨mg, 0, none⟩) 1 mc)
                    have BO2 := BO1.chg SC (by simp; omega)
                    have LA2 := LA1.chg SC (by simp; omega)
                    have LB2 := LB.chg SC (by simp; omega)
                    have hxg2 : V.heap.size ≤ xg := hxg
                    have OX2 := (OX.chg SC (by simp [ob, Value.ownBlock]; omega)).base (base' := y) ywr0
                    have C9 := CV.trans1 hHeld
                    clear hHeld SC
                    have hki : (k : Int) ≤ (i : Int) := by omega
                    go_wp2_with fail
                    go_ret
                    have hY := HY.out
                    subst hY
                    exact ⟨_, rfl, w.heap.size, _, _, _, rfl, C9, Nat.le_refl _, BO2, OX2, LA2, LB2, GB2⟩
                  exact AllReadyH.nil
                exact AllReadyH.nil
              exact AllReadyH.nil
            exact AllReadyH.nil
          exact AllReadyH.nil
end Go.Proofs.YtgjclegpnbjlkaaGreatDoor

/- (*Given).Bytes, on a Given that has copies of bytes already. -/
namespace Go.Proofs.YtgjclegpnbjlkaaGreatDoor
open Go.RowKit

/-- Bytes as rows of one cell. -/
def bR (g : Nat → Nat) : Nat → List Value := fun j => [.int .u8 ((g j : Nat) : Int)]
theorem bR_ok (m : Nat) (g : Nat → Nat) : Rok 1 m (bR g) := fun j _ => ⟨rfl, by intro v hv; simp [bR] at hv; subst hv; rfl⟩
theorem rL_bR (m : Nat) (g : Nat → Nat) : rL 1 m (bR g) = yL m g := by
  apply List.ext_getElem?
  intro k
  by_cases h : k < m
  · have e := rL_get (bR_ok m g) h (show 0 < 1 by decide)
    rw [Nat.mul_one, Nat.add_zero] at e
    rw [e, yL_get m g k h]
    rfl
  · rw [List.getElem?_eq_none (by rw [rL_len]; omega), List.getElem?_eq_none (by rw [yL_len]; omega)]
theorem yC_bR (m : Nat) (g : Nat → Nat) : yC m g = (rL 1 m (bR g)).toArray := by
  rw [rL_bR]
  apply Array.ext_getElem?
  intro k
  by_cases h : k < m
  · rw [yC_get m g k h, List.getElem?_toArray, yL_get m g k h]
  · rw [Array.getElem?_eq_none (by rw [yC_size]; omega), List.getElem?_toArray, List.getElem?_eq_none (by rw [yL_len]; omega)]
theorem Own.ownR {w : World} {base : Nat} {v : Value} {n : Nat} {f : Nat → Nat} (h : Own w base v n f) : OwnR w base 5 1 v n (bR f) := ⟨by rw [rL_bR]; exact h.1, bR_ok n f⟩
theorem CopyBytes_k (y n : Nat) (f : Nat → Nat) (w : World) (h0 : 0 < n) (hn : n ≤ 211106232532992) (hf : ∀ j, j < n → f j < 256) (hb : Blk w y (rL 1 n (bR f)).toArray 5) :
    Calls Tryz.prog 57 #[.slice (some ⟨y, 0, none⟩) n n] w fun e w' => ∃ g cap, e = .returned (.slice (some ⟨g, 0, none⟩) n cap) ∧ OwnR w' w.heap.size 5 1 (.slice (some ⟨g, 0, none⟩) n cap) n (bR f) ∧ Chg w w' [] := by
  rw [← yC_bR] at hb
  refine (CopyBytes_s _ n f w hn (Or.inr ⟨y, 0, n, rfl, Nat.le_refl _, by omega, hb.lt, hf, fun j hj => by rw [Nat.zero_add, hb.cell, yC_get _ _ _ hj]⟩)).mono ?_
  rintro e w' ⟨v', rfl, o, c⟩
  obtain ⟨g, cap, rfl, _⟩ := o.form h0
  exact ⟨g, cap, rfl, o.ownR, c⟩
/-- What Bytes answers and leaves. -/
def GvQ (w w' : World) (gb base n m : Nat) (f : Nat → Nat) (G : Nat → Value) (Kn : Nat) (N : Nat → Nat) (F : Nat → Nat → List Value) (r : Value) : Prop :=
  ∃ o la lb, r = .slice (some ⟨o, 0, none⟩) n m ∧ w.heap.size ≤ o ∧ Chg w w' (gch gb G 0) ∧ Blk w' o (rL 1 m (bR (gvf f n))).toArray 5 ∧
    Gv w' gb base (upV (upV G 0 la) (0 + 1) lb) 0 52 29 5 1 (Kn + 1) (fun j => if j = Kn then m else N j) (fun j => if j = Kn then bR (gvf f n) else F j)
set_option maxHeartbeats 8000000 in
set_option maxRecDepth 100000 in
theorem GivenBytes_k (gb n base Kn : Nat) (v : Value) (f : Nat → Nat) (G : Nat → Value) (N : Nat → Nat) (F : Nat → Nat → List Value) (w : World) (hn : n ≤ 140737488355328) (hK : Kn ≤ 1000000) (hbase : base ≤ w.heap.size) (hv : Sl w v n f)
    (hg : Gv w gb base G 0 52 29 5 1 Kn N F) :
    Calls Tryz.prog 14 #[.pointer (some ⟨gb, 0, none⟩), v] w fun e w' => ∃ r, e = .returned r ∧ GvQ w w' gb base n (n + 3) f G Kn N F r := by
  have hlen : ∃ p c, v = .slice p n c := by
    rcases hv with ⟨rfl, rfl⟩ | ⟨g, o, cap, rfl, _⟩
    · exact ⟨none, 0, rfl⟩
    · exact ⟨_, _, rfl⟩
  obtain ⟨vp, vc, rfl⟩ := hlen
  have hfl := sl_lt hv
  obtain ⟨m, hm⟩ : ∃ m, n + 3 = m := ⟨_, rfl⟩
  have HM : Hid (n + 3 = m) := hm
  have e1 : IntKind.i64.wrap ((n : Int) + 3) = (m : Int) := by rw [IntKind.wrap_i64]; omega
  have hmk := make_yi m (by omega)
  have B0 := Blk.new w (yC m fun _ => 0) 5
  have B1 : Blk (w.alloc (.cells (yC m fun _ => 0) 5)) w.heap.size (yC m (gv1 0)) 5 := B0.to (yC_eq fun j _ => (if_neg (by omega)).symm)
  have C1 := (Chg.refl w []).alloc (.cells (yC m fun _ => 0) 5)
  have hnm : n < m := by omega
  have hmb : m ≤ 140737488355331 := by omega
  rw [hm]
  clear hm B0 hn
  go_enter Tryz.func14, Tryz.ntmps14
  go_wp2_with fail
  clear hmk
  go_loopw [6] (fun t wr => ∃ i : Nat, i ≤ m ∧ t = .int .i64 (i : Int) ∧ Blk wr w.heap.size (yC m (gv1 i)) 5 ∧ Chg w wr []) (fun t _ => ((m : Int) - intOf t).toNat)
  case atStart => exact ⟨0, by omega, rfl, B1, C1⟩
  case round =>
    clear B1 C1
    obtain ⟨i, hi, rfl, b0, c0⟩ := hrel
    by_cases h8 : i < m
    · have hI : (i : Int) < (m : Int) := by omega
      have e2 : IntKind.i64.wrap ((i : Int) + 1) = (i : Int) + 1 := by rw [IntKind.wrap_i64]; omega
      have ck := (b0.cell i).trans (yC_get m _ i h8)
      have fk := b0.frozen i
      have b1 := (b0.setCell i (.int .u8 ((mkb i : Nat) : Int))).to (by rw [yC_set, gv1_step])
      have c1 := c0.setNew (Nat.le_refl _) i (.int .u8 ((mkb i : Nat) : Int))
      go_wp2_with fail
      refine (markBytes_s i (by omega) _).mono ?_
      rintro e v1 ⟨rfl, rfl⟩
      go_wp2_with fail
      exact ⟨⟨i + 1, by omega, by go_num, b1, c1⟩, by simp [intOf]; omega⟩
    · have h9 : i = m := by omega
      subst h9
      have hI : ¬ (i : Int) < (i : Int) := by omega
      go_wp2_with fail
      have B2 : Blk wr w.heap.size (yC i (gv2 f 0)) 5 := b0.to (yC_eq fun j hj => by unfold gv1 gv2; rw [if_pos hj, if_neg (by omega)])
      go_loopw [7] (fun t wr => ∃ k : Nat, k ≤ n ∧ t = .int .i64 (k : Int) ∧ Blk wr w.heap.size (yC i (gv2 f k)) 5 ∧ Chg w wr []) (fun t _ => ((n : Int) - intOf t).toNat)
      case atStart => exact ⟨0, by omega, rfl, B2, c0⟩
      case round =>
        clear B2 c0 b0
        obtain ⟨k, hk, rfl, b0, c0⟩ := hrel
        by_cases h8 : k < n
        · have hI1 : (k : Int) < (n : Int) := by omega
          have hI2 : (k : Int) < (i : Int) := by omega
          have e2 : IntKind.i64.wrap ((k : Int) + 1) = (k : Int) + 1 := by rw [IntKind.wrap_i64]; omega
          have ck := (b0.cell k).trans (yC_get i _ k (by omega))
          have fk := b0.frozen k
          have b1 := (b0.setCell k (.int .u8 ((f k : Nat) : Int))).to (by rw [yC_set, gv2_step])
          have c1 := c0.setNew (Nat.le_refl _) k (.int .u8 ((f k : Nat) : Int))
          have hvc := hv.chg c0 (Off.nil _)
          rcases hvc with ⟨h0, _⟩ | ⟨g, o, cap, he, _, _, hb⟩
          · omega
          · simp only [Value.slice.injEq] at he
            obtain ⟨rfl, _, rfl⟩ := he
            have cl := hb.cell k h8
            go_wp2_with fail
            exact ⟨⟨k + 1, by omega, by go_num, b1, c1⟩, by simp [intOf]; omega⟩
        · have h9 : k = n := by omega
          subst h9
          have hI1 : ¬ (k : Int) < (k : Int) := by omega
          obtain ⟨y, hy⟩ : ∃ y, w.heap.size = y := ⟨_, rfl⟩
          have HY : Hid (w.heap.size = y) := hy
          obtain ⟨RR, hRR⟩ : ∃ RR, bR (gvf f k) = RR := ⟨_, rfl⟩
          have HRR : Hid (bR (gvf f k) = RR) := hRR
          have HOK : Hid (Rok 1 i RR) := hRR ▸ bR_ok i (gvf f k)
          have BO : Blk wr y (rL 1 i RR).toArray 5 := hRR ▸ hy ▸ (b0.to (yC_bR i (gvf f k)))
          have HCW : Hid (Chg w wr []) := c0
          have HG1 : Hid (Gv wr gb base G 0 52 29 5 1 Kn N F) := hg.chg c0
          have hg1 := HG1.out
          have ybs : base ≤ wr.heap.size := Nat.le_trans hbase c0.size
          obtain ⟨vs, us, l1, l2, hd, hj⟩ := hg1.lists
          have HJ : Hid (∀ j, j < Kn → ∃ o x, vs[j]? = some (.slice (some ⟨o, 0, none⟩) (N j) (N j)) ∧ us[j]? = some x ∧ N j ≤ 9223372036854775807 ∧ Blk wr o (rL 1 (N j) (F j)).toArray 5 ∧ OwnR wr base 5 1 x (N j) (F j)) := hj
          have HL1 : Hid (wr.ownsRow base 29 1 (G 0) Kn vs) := l1
          have HL2 : Hid (wr.ownsRow base 29 1 (G (0 + 1)) Kn us) := l2
          have g8 : ¬ gb ∈ ob (G 0) := fun hx => by obtain ⟨C, hC⟩ := ownsRow_blk l1 hx; exact hg1.gb.ne hC (by decide) rfl
          have g9 : ¬ gb ∈ ob (G (0 + 1)) := fun hx => by obtain ⟨C, hC⟩ := ownsRow_blk l2 hx; exact hg1.gb.ne hC (by decide) rfl
          have y8 : ¬ y ∈ ob (G 0) := fun hx => by obtain ⟨C, hC⟩ := ownsRow_blk l1 hx; exact BO.ne hC (by decide) rfl
          have y9 : ¬ y ∈ ob (G (0 + 1)) := fun hx => by obtain ⟨C, hC⟩ := ownsRow_blk l2 hx; exact BO.ne hC (by decide) rfl
          have yg : ¬ y = gb := BO.ne hg1.gb (by decide)
          have HCH : Hid (gch gb G 0 = gb :: (ob (G 0) ++ ob (G (0 + 1)))) := rfl
          have GB00 := hg1.gb
          obtain ⟨la0, hla0⟩ : ∃ v, G 0 = v := ⟨_, rfl⟩
          obtain ⟨lb0, hlb0⟩ : ∃ v, G (0 + 1) = v := ⟨_, rfl⟩
          rw [hla0] at g8 y8 l1 hd
          rw [hlb0] at g9 y9 l2 hd
          have cg0 : wr.cell? ⟨gb, 0, none⟩ = some la0 := by rw [GB00.cell, gvC_get _ _ (by decide), hla0]
          have HLA0 : Hid (G 0 = la0) := hla0
          have HLB0 : Hid (G (0 + 1) = lb0) := hlb0
          rw [hy]
          have HI0 : Hid (0 < i) := by show 0 < i; omega
          have HIM : Hid (i ≤ 140737488355331) := by show i ≤ 140737488355331; omega
          have hki : (k : Int) ≤ (i : Int) := by omega
          obtain ⟨inf, hinf, hz, hs1, hs2⟩ := listRow
          have AL := Blk.new wr #[.slice (some ⟨y, 0, none⟩) i i] 29
          have HNW : Hid (∀ j u, ([.slice (some ⟨y, 0, none⟩) i i] : List Value)[j]? = some u → (wr.alloc (.cells #[.slice (some ⟨y, 0, none⟩) i i] 29)).cell? ((⟨wr.heap.size, 0, none⟩ : Addr).add j) = some u) := by
            intro j u hj
            refine add_cell ?_
            rw [Nat.zero_add, AL.cell]
            simpa using hj
          have HLA : Hid ((wr.alloc (.cells #[.slice (some ⟨y, 0, none⟩) i i] 29)).ownsRow base 29 1 la0 Kn vs) := l1.alloc _
          have H63 : Hid (Kn + 1 ≤ maxLen) := by show Kn + 1 ≤ maxLen; simp only [maxLen]; omega
          have HBY : Hid ((Kn + 1) * 24 ≤ 140737488355328) := by show (Kn + 1) * 24 ≤ 140737488355328; omega
          have HBA : Hid (base ≤ (wr.alloc (.cells #[.slice (some ⟨y, 0, none⟩) i i] 29)).heap.size) := by show base ≤ _; simp; omega
          have HON : Hid (∀ u ∈ ([.slice (some ⟨y, 0, none⟩) i i] : List Value), u.oneCell' = true) := by show ∀ u ∈ ([.slice (some ⟨y, 0, none⟩) i i] : List Value), u.oneCell' = true; simp [Value.oneCell']
          have GA := GB00.alloc (.cells #[.slice (some ⟨y, 0, none⟩) i i] 29)
          have BA := BO.alloc (.cells #[.slice (some ⟨y, 0, none⟩) i i] 29)
          have LB1 := l2.alloc (.cells #[.slice (some ⟨y, 0, none⟩) i i] 29)
          have HD0 : Hid (∀ x, x ∈ ob la0 → ¬ x ∈ ob lb0) := hd
          have HLT : Hid (∀ x, x ∈ ob lb0 → x < wr.heap.size) := fun x hx => by obtain ⟨C, hC⟩ := ownsRow_blk l2 hx; exact hC.lt
          have CA := (Chg.refl wr (gch gb G 0)).alloc (.cells #[.slice (some ⟨y, 0, none⟩) i i] 29)
          have HIN : Hid (∀ x, x ∈ ob la0 → x ∈ gch gb G 0) := fun x hx => by rw [HCH.out, hla0]; simp [hx]
          have HIN9 : Hid (∀ x, x ∈ gb :: ob lb0 → x ∈ gch gb G 0) := fun x hx => by rw [HCH.out, hlb0]; simp only [List.mem_cons, List.mem_append] at hx ⊢; rcases hx with h | h <;> simp [h]
          have HGI : Hid (gb ∈ gch gb G 0) := List.mem_cons_self
          have wasz : (wr.alloc (.cells #[.slice (some ⟨y, 0, none⟩) i i] 29)).heap.size = wr.heap.size + 1 := by simp
          clear hy hRR b0 hv hg hj hd AL l1 l2 BO hg1 GB00 c0 hla0 hlb0 hnm hmb hk h8 hK
          go_wp2_with (with_reducible refine wpList_append_lies _ ?_ (.tmp 40) (.tmp 42) 36 ?_ base 29 inf (.slice none 0 0) 1 24 Tryz.underlying36 hinf hz hs1 hs2 ?_ ?_ la0 Kn vs ?_ HLA.out ⟨wr.heap.size, 0, none⟩ 1 1 [.slice (some ⟨y, 0, none⟩) i i] ?_ ?_ HNW.out HON.out ?_ H63.out HBY.out HBA.out (wr.heap.size + 1) ?_ ?_
                       · rfl
                       · rfl
                       · rfl
                       · decide
                       · rfl
                       · rfl
                       · rfl
                       · decide
                       · exact wasz
                       intro lg lc w1 O1 G1 hat hlt
                       replace G1 := Chg.grown G1
                       have GB0 := GA.chg G1 g8
                       have cgb : w1.cell? ⟨gb, 0, none⟩ = some la0 := by rw [GB0.cell, gvC_get _ _ (by decide)]; exact congrArg some HLA0.out
                       have fgb := GB0.frozen 0)
          have lgg : ¬ lg = gb := by obtain ⟨C, hC⟩ := ownsRow_blk O1 (k := lg) (by rw [ob_slice]; simp); exact hC.ne GB0 (by decide)
          have DJ : ¬ lg ∈ ob lb0 := by
            rcases hat with h | h
            · exact HD0.out lg (by simp [ob, h])
            · intro hx
              have := HLT.out lg hx
              omega
          have GB := (GB0.setCell 0 (.slice (some ⟨lg, 0, none⟩) (Kn + 1) lc)).to (gvC_set _ _ _)
          have BO1 := (BA.chg G1 y8).setOther yg 0 (.slice (some ⟨lg, 0, none⟩) (Kn + 1) lc)
          have SV := (Chg.refl w1 [gb]).setIn (k := gb) (by simp) 0 (.slice (some ⟨lg, 0, none⟩) (Kn + 1) lc)
          have LA1 := ownsRow_chg O1 SV (by rw [ob_slice]; simpa using lgg)
          have LB2 := ownsRow_chg (ownsRow_chg LB1 G1 (fun x hx hx' => HD0.out x hx' hx)) SV (fun x hx he => g9 (by simp at he; exact he ▸ hx))
          have CV := (CA.trans G1 (fun x hx => Or.inl (HIN.out x hx))).setIn HGI.out 0 (.slice (some ⟨lg, 0, none⟩) (Kn + 1) lc)
          have bV : base ≤ (w1.setCell ⟨gb, 0, none⟩ (.slice (some ⟨lg, 0, none⟩) (Kn + 1) lc)).heap.size := Nat.le_trans ybs CV.size
          clear SV cgb fgb GB0 O1 G1 GA BA LB1 CA HLA HNW HON HBA wasz cg0 hat hlt HD0 HLT HIN
          generalize w1.setCell ⟨gb, 0, none⟩ (.slice (some ⟨lg, 0, none⟩) (Kn + 1) lc) = V at *
          have HBV : Hid (base ≤ V.heap.size) := bV
          refine wp_region_held_drew (S := fun w' => Chg V w' (gb :: ob lb0)) (by kernel_rfl) ((Chg.refl V _).drew) (fun hHeld => ?_)
          replace GB := GB.drew
          replace BO1 := BO1.drew
          replace LA1 := ownsRow_chg LA1 ((Chg.refl V []).drew) (by simp)
          replace LB2 := ownsRow_chg LB2 ((Chg.refl V []).drew) (by simp)
          refine take_val (v := ?_) 0 (some 46) rfl (by kernel_rfl) (by kernel_rfl) (by kernel_rfl) (fun _ _ _ h => h) rfl rfl (fun w hSw => ?_) hHeld ?_
          rotate_left
          · (go_simp; try with_reducible rfl)
          try simp only [Act.put, List.setIfInBounds_toArray, List.set_cons_zero, List.set_cons_succ]
          refine take_val (v := ?_) 1 (some 47) rfl (by kernel_rfl) (by kernel_rfl) (by kernel_rfl) (fun _ _ _ h => h) rfl rfl (fun w hSw => ?_) hHeld ?_
          rotate_left
          · (go_simp; try with_reducible rfl)
          try simp only [Act.put, List.setIfInBounds_toArray, List.set_cons_zero, List.set_cons_succ]
          refine take_val (v := ?_) 2 (some 48) rfl (by kernel_rfl) (by kernel_rfl) (by kernel_rfl) (fun _ _ _ h => h) rfl rfl (fun w hSw => ?_) hHeld ?_
          rotate_left
          · (go_simp; try with_reducible rfl)
          try simp only [Act.put, List.setIfInBounds_toArray, List.set_cons_zero, List.set_cons_succ]
          refine take_val (v := ?_) 3 (some 49) rfl (by kernel_rfl) (by kernel_rfl) (by kernel_rfl) (fun _ _ _ h => h) rfl rfl (fun w hSw => ?_) hHeld ?_
          rotate_left
          · (go_simp; try with_reducible rfl)
          try simp only [Act.put, List.setIfInBounds_toArray, List.set_cons_zero, List.set_cons_succ]
          refine take_val (v := ?_) 5 (some 51) rfl (by kernel_rfl) (by kernel_rfl) (by kernel_rfl) (fun _ _ _ h => h) rfl rfl (fun w hSw => ?_) hHeld ?_
          rotate_left
          · (go_simp; try with_reducible rfl)
          try simp only [Act.put, List.setIfInBounds_toArray, List.set_cons_zero, List.set_cons_succ]
          refine wpAnyH_ready (rs := [4, 6]) (by kernel_rfl) (by simp) ?_
          refine AllReadyH.cons (o := _) rfl (fun K hK => ?_) ?_
          ·
            have cg := GB.cell 1
            rw [gvC_get _ _ (by decide), upV_other _ _ _ _ (by decide), show G 1 = lb0 from HLB0.out] at cg
            rw [if_pos (by rfl)]
            go_simp
            refine hK.out _ _ (hHeld) (fun hHeld => ?_)
            clear hK K
            try simp only [Act.put, List.setIfInBounds_toArray, List.set_cons_zero, List.set_cons_succ]
            refine wpAnyH_ready (rs := [6]) (by kernel_rfl) (by simp) ?_
            refine AllReadyH.cons (o := _) rfl (fun K hK => ?_) ?_
            ·
              go_simp
              refine (CopyBytes_k y i (gvf f k) _ HI0.out (by have := HIM.out; omega) (fun j _ => gvf_lt hfl j) (by rw [show bR (gvf f k) = RR from HRR.out]; exact BO1)).mono ?_
              rintro e v7 ⟨xg, xc, rfl, OX, k7⟩
              rw [show bR (gvf f k) = RR from HRR.out] at OX
              go_wp2_with fail
              refine hK.out _ _ (hHeld.trans1 k7.wide) (fun hHeld => ?_)
              clear hK K
              try simp only [Act.put, List.setIfInBounds_toArray, List.set_cons_zero, List.set_cons_succ]
              replace GB := GB.chg k7 (by simp)
              replace BO1 := BO1.chg k7 (by simp)
              replace LA1 := ownsRow_chg LA1 k7 (by simp)
              replace LB2 := ownsRow_chg LB2 k7 (by simp)
              have bv7 : base ≤ v7.heap.size := Nat.le_trans HBV.out k7.size
              have lglt : lg < v7.heap.size := by obtain ⟨C, hC⟩ := ownsRow_blk LA1 (k := lg) (by rw [ob_slice]; simp); exact hC.lt
              have xg9 : ¬ xg ∈ ob lb0 := fun hx => by obtain ⟨C, hC⟩ := ownsRow_blk LB2 hx; obtain ⟨D, hD⟩ := ownR_blk OX (k := xg) (by rw [ob_slice]; simp); exact hD.ne hC (by decide) rfl
              have xgg : ¬ xg = gb := by obtain ⟨D, hD⟩ := ownR_blk OX (k := xg) (by rw [ob_slice]; simp); exact hD.ne GB (by decide)
              clear k7
              refine wpAnyH_ready (rs := [7]) (by kernel_rfl) (by simp) ?_
              refine AllReadyH.cons (o := _) rfl (fun K hK => ?_) ?_
              ·
                rw [if_pos (by rfl)]
                go_simp
                refine hK.out _ _ (hHeld.alloc _) (fun hHeld => ?_)
                clear hK K
                try simp only [Act.put, List.setIfInBounds_toArray, List.set_cons_zero, List.set_cons_succ]
                have AL := Blk.new v7 #[.slice (some ⟨xg, 0, none⟩) i xc] 29
                replace GB := GB.alloc (.cells #[.slice (some ⟨xg, 0, none⟩) i xc] 29)
                replace BO1 := BO1.alloc (.cells #[.slice (some ⟨xg, 0, none⟩) i xc] 29)
                replace LA1 := LA1.alloc (.cells #[.slice (some ⟨xg, 0, none⟩) i xc] 29)
                replace LB2 := LB2.alloc (.cells #[.slice (some ⟨xg, 0, none⟩) i xc] 29)
                replace OX := OX.chg ((Chg.refl v7 []).alloc (.cells #[.slice (some ⟨xg, 0, none⟩) i xc] 29)) (by simp)
                refine wpAnyH_ready (rs := [8]) (by kernel_rfl) (by simp) ?_
                refine AllReadyH.cons (o := _) rfl (fun K hK => ?_) ?_
                ·
                  rw [if_pos (by rfl)]
                  refine wp_append_lies _ (.tmp 50) (.tmp 53) 36 rfl base 29 inf (.slice none 0 0) 1 24 Tryz.underlying36 hinf hz hs1 hs2 rfl (by decide) lb0 Kn us rfl LB2 ⟨v7.heap.size, 0, none⟩ 1 1 [.slice (some ⟨xg, 0, none⟩) i xc] rfl rfl (fun j u hj => add_cell (by rw [Nat.zero_add, AL.cell]; simpa using hj)) (by simp [Value.oneCell']) (by decide) H63.out HBY.out (by simp; omega) (v7.heap.size + 1) (by simp) ?_
                  intro mg mc w8 O8 G8 hat8 hlt8
                  replace G8 := Chg.grown G8
                  have DJ2 : ¬ lg = mg := by
                    rcases hat8 with h | h
                    · intro e; exact DJ (by simp [ob, h, e])
                    · omega
                  refine hK.out _ _ (hHeld.trans1 (G8.incl (fun x hx => List.mem_cons_of_mem _ hx))) (fun hHeld => ?_)
                  clear hK K
                  try simp only [Act.put, List.setIfInBounds_toArray, List.set_cons_zero, List.set_cons_succ]
                  replace GB := GB.chg G8 g9
                  replace BO1 := BO1.chg G8 y9
                  replace LA1 := ownsRow_chg LA1 G8 (by rw [ob_slice]; simpa using DJ)
                  replace OX := OX.chg G8 (by rw [ob_slice]; simpa using xg9)
                  have mgg : ¬ mg = gb := by obtain ⟨C, hC⟩ := ownsRow_blk O8 (k := mg) (by rw [ob_slice]; simp); exact hC.ne GB (by decide)
                  clear G8 AL hat8 hlt8 LB2
                  refine take_val (v := ?_) 9 (some 55) rfl (by kernel_rfl) (by kernel_rfl) (by kernel_rfl) (fun _ _ _ h => h) rfl rfl (fun w hSw => ?_) hHeld ?_
                  rotate_left
                  · (go_simp; try with_reducible rfl)
                  try simp only [Act.put, List.setIfInBounds_toArray, List.set_cons_zero, List.set_cons_succ]
                  refine take_val (v := ?_) 10 (some 56) rfl (by kernel_rfl) (by kernel_rfl) (by kernel_rfl) (fun _ _ _ h => h) rfl rfl (fun w hSw => ?_) hHeld ?_
                  rotate_left
                  · (go_simp; try with_reducible rfl)
                  try simp only [Act.put, List.setIfInBounds_toArray, List.set_cons_zero, List.set_cons_succ]
                  refine wpAnyH_ready (rs := [11]) (by kernel_rfl) (by simp) ?_
                  refine AllReadyH.cons (o := _) rfl (fun K hK => ?_) ?_
                  ·
                    have cg := GB.cell 1
                    rw [gvC_get _ _ (by decide), upV_other _ _ _ _ (by decide), show G 1 = lb0 from HLB0.out] at cg
                    have fg := GB.frozen 1
                    rw [if_pos (by rfl)]
                    go_simp
                    refine hK.out _ _ (hHeld.setIn (by simp) _ _) (fun hHeld => ?_)
                    clear hK K
                    try simp only [Act.put, List.setIfInBounds_toArray, List.set_cons_zero, List.set_cons_succ]
                    refine wpAnyH_done (by kernel_rfl) ?_ _
                    have GB2 := (GB.setCell 1 (.slice (some ⟨mg, 0, none⟩) (Kn + 1) mc)).to (gvC_set _ _ _)
                    have SC := (Chg.refl w8 [gb]).setIn (k := gb) (by simp) 1 (.slice (some ⟨mg, 0, none⟩) (Kn + 1) mc)
                    have BO2 := BO1.chg SC (by simpa using yg)
                    have LA2 := ownsRow_chg LA1 SC (by rw [ob_slice]; simpa using lgg)
                    have LB3 := ownsRow_chg O8 SC (by rw [ob_slice]; simpa using mgg)
                    have OX2 := OX.chg SC (by rw [ob_slice]; simpa using xgg)
                    have C9 := CV.trans hHeld (fun x hx => Or.inl (HIN9.out x hx))
                    clear hHeld SC
                    go_wp2_with fail
                    go_ret
                    refine ⟨_, rfl, y, .slice (some ⟨lg, 0, none⟩) (Kn + 1) lc, .slice (some ⟨mg, 0, none⟩) (Kn + 1) mc, rfl, by rw [show w.heap.size = y from HY.out]; exact Nat.le_refl _, (HCW.out.wide).trans1 C9, by rw [show bR (gvf f k) = RR from HRR.out]; exact BO2, ?_⟩
                    rw [show bR (gvf f k) = RR from HRR.out]
                    exact Gv.more HG1.out (by decide) (by decide) C9 HL1.out HL2.out HJ.out GB2 LA2 LB3 (by rw [ob_slice, ob_slice]; intro x hx hx'; simp at hx hx'; exact DJ2 (hx.symm.trans hx')) (by have := HIM.out; omega) BO2 ⟨ownsRow_base OX2.1 HBV.out, OX2.2⟩
                  exact AllReadyH.nil
                exact AllReadyH.nil
              exact AllReadyH.nil
            exact AllReadyH.nil
          refine AllReadyH.cons (o := _) rfl (fun K hK => ?_) ?_
          ·
            go_simp
            refine (CopyBytes_k y i (gvf f k) _ HI0.out (by have := HIM.out; omega) (fun j _ => gvf_lt hfl j) (by rw [show bR (gvf f k) = RR from HRR.out]; exact BO1)).mono ?_
            rintro e v7 ⟨xg, xc, rfl, OX, k7⟩
            rw [show bR (gvf f k) = RR from HRR.out] at OX
            go_wp2_with fail
            refine hK.out _ _ (hHeld.trans1 k7.wide) (fun hHeld => ?_)
            clear hK K
            try simp only [Act.put, List.setIfInBounds_toArray, List.set_cons_zero, List.set_cons_succ]
            replace GB := GB.chg k7 (by simp)
            replace BO1 := BO1.chg k7 (by simp)
            replace LA1 := ownsRow_chg LA1 k7 (by simp)
            replace LB2 := ownsRow_chg LB2 k7 (by simp)
            have bv7 : base ≤ v7.heap.size := Nat.le_trans HBV.out k7.size
            have lglt : lg < v7.heap.size := by obtain ⟨C, hC⟩ := ownsRow_blk LA1 (k := lg) (by rw [ob_slice]; simp); exact hC.lt
            have xg9 : ¬ xg ∈ ob lb0 := fun hx => by obtain ⟨C, hC⟩ := ownsRow_blk LB2 hx; obtain ⟨D, hD⟩ := ownR_blk OX (k := xg) (by rw [ob_slice]; simp); exact hD.ne hC (by decide) rfl
            have xgg : ¬ xg = gb := by obtain ⟨D, hD⟩ := ownR_blk OX (k := xg) (by rw [ob_slice]; simp); exact hD.ne GB (by decide)
            clear k7
            refine wpAnyH_ready (rs := [4, 7]) (by kernel_rfl) (by simp) ?_
            refine AllReadyH.cons (o := _) rfl (fun K hK => ?_) ?_
            ·
              have cg := GB.cell 1
              rw [gvC_get _ _ (by decide), upV_other _ _ _ _ (by decide), show G 1 = lb0 from HLB0.out] at cg
              rw [if_pos (by rfl)]
              go_simp
              refine hK.out _ _ (hHeld) (fun hHeld => ?_)
              clear hK K
              try simp only [Act.put, List.setIfInBounds_toArray, List.set_cons_zero, List.set_cons_succ]
              refine wpAnyH_ready (rs := [7]) (by kernel_rfl) (by simp) ?_
              refine AllReadyH.cons (o := _) rfl (fun K hK => ?_) ?_
              ·
                rw [if_pos (by rfl)]
                go_simp
                refine hK.out _ _ (hHeld.alloc _) (fun hHeld => ?_)
                clear hK K
                try simp only [Act.put, List.setIfInBounds_toArray, List.set_cons_zero, List.set_cons_succ]
                have AL := Blk.new v7 #[.slice (some ⟨xg, 0, none⟩) i xc] 29
                replace GB := GB.alloc (.cells #[.slice (some ⟨xg, 0, none⟩) i xc] 29)
                replace BO1 := BO1.alloc (.cells #[.slice (some ⟨xg, 0, none⟩) i xc] 29)
                replace LA1 := LA1.alloc (.cells #[.slice (some ⟨xg, 0, none⟩) i xc] 29)
                replace LB2 := LB2.alloc (.cells #[.slice (some ⟨xg, 0, none⟩) i xc] 29)
                replace OX := OX.chg ((Chg.refl v7 []).alloc (.cells #[.slice (some ⟨xg, 0, none⟩) i xc] 29)) (by simp)
                refine wpAnyH_ready (rs := [8]) (by kernel_rfl) (by simp) ?_
                refine AllReadyH.cons (o := _) rfl (fun K hK => ?_) ?_
                ·
                  rw [if_pos (by rfl)]
                  refine wp_append_lies _ (.tmp 50) (.tmp 53) 36 rfl base 29 inf (.slice none 0 0) 1 24 Tryz.underlying36 hinf hz hs1 hs2 rfl (by decide) lb0 Kn us rfl LB2 ⟨v7.heap.size, 0, none⟩ 1 1 [.slice (some ⟨xg, 0, none⟩) i xc] rfl rfl (fun j u hj => add_cell (by rw [Nat.zero_add, AL.cell]; simpa using hj)) (by simp [Value.oneCell']) (by decide) H63.out HBY.out (by simp; omega) (v7.heap.size + 1) (by simp) ?_
                  intro mg mc w8 O8 G8 hat8 hlt8
                  replace G8 := Chg.grown G8
                  have DJ2 : ¬ lg = mg := by
                    rcases hat8 with h | h
                    · intro e; exact DJ (by simp [ob, h, e])
                    · omega
                  refine hK.out _ _ (hHeld.trans1 (G8.incl (fun x hx => List.mem_cons_of_mem _ hx))) (fun hHeld => ?_)
                  clear hK K
                  try simp only [Act.put, List.setIfInBounds_toArray, List.set_cons_zero, List.set_cons_succ]
                  replace GB := GB.chg G8 g9
                  replace BO1 := BO1.chg G8 y9
                  replace LA1 := ownsRow_chg LA1 G8 (by rw [ob_slice]; simpa using DJ)
                  replace OX := OX.chg G8 (by rw [ob_slice]; simpa using xg9)
                  have mgg : ¬ mg = gb := by obtain ⟨C, hC⟩ := ownsRow_blk O8 (k := mg) (by rw [ob_slice]; simp); exact hC.ne GB (by decide)
                  clear G8 AL hat8 hlt8 LB2
                  refine take_val (v := ?_) 9 (some 55) rfl (by kernel_rfl) (by kernel_rfl) (by kernel_rfl) (fun _ _ _ h => h) rfl rfl (fun w hSw => ?_) hHeld ?_
                  rotate_left
                  · (go_simp; try with_reducible rfl)
                  try simp only [Act.put, List.setIfInBounds_toArray, List.set_cons_zero, List.set_cons_succ]
                  refine take_val (v := ?_) 10 (some 56) rfl (by kernel_rfl) (by kernel_rfl) (by kernel_rfl) (fun _ _ _ h => h) rfl rfl (fun w hSw => ?_) hHeld ?_
                  rotate_left
                  · (go_simp; try with_reducible rfl)
                  try simp only [Act.put, List.setIfInBounds_toArray, List.set_cons_zero, List.set_cons_succ]
                  refine wpAnyH_ready (rs := [11]) (by kernel_rfl) (by simp) ?_
                  refine AllReadyH.cons (o := _) rfl (fun K hK => ?_) ?_
                  ·
                    have cg := GB.cell 1
                    rw [gvC_get _ _ (by decide), upV_other _ _ _ _ (by decide), show G 1 = lb0 from HLB0.out] at cg
                    have fg := GB.frozen 1
                    rw [if_pos (by rfl)]
                    go_simp
                    refine hK.out _ _ (hHeld.setIn (by simp) _ _) (fun hHeld => ?_)
                    clear hK K
                    try simp only [Act.put, List.setIfInBounds_toArray, List.set_cons_zero, List.set_cons_succ]
                    refine wpAnyH_done (by kernel_rfl) ?_ _
                    have GB2 := (GB.setCell 1 (.slice (some ⟨mg, 0, none⟩) (Kn + 1) mc)).to (gvC_set _ _ _)
                    have SC := (Chg.refl w8 [gb]).setIn (k := gb) (by simp) 1 (.slice (some ⟨mg, 0, none⟩) (Kn + 1) mc)
                    have BO2 := BO1.chg SC (by simpa using yg)
                    have LA2 := ownsRow_chg LA1 SC (by rw [ob_slice]; simpa using lgg)
                    have LB3 := ownsRow_chg O8 SC (by rw [ob_slice]; simpa using mgg)
                    have OX2 := OX.chg SC (by rw [ob_slice]; simpa using xgg)
                    have C9 := CV.trans hHeld (fun x hx => Or.inl (HIN9.out x hx))
                    clear hHeld SC
                    go_wp2_with fail
                    go_ret
                    refine ⟨_, rfl, y, .slice (some ⟨lg, 0, none⟩) (Kn + 1) lc, .slice (some ⟨mg, 0, none⟩) (Kn + 1) mc, rfl, by rw [show w.heap.size = y from HY.out]; exact Nat.le_refl _, (HCW.out.wide).trans1 C9, by rw [show bR (gvf f k) = RR from HRR.out]; exact BO2, ?_⟩
                    rw [show bR (gvf f k) = RR from HRR.out]
                    exact Gv.more HG1.out (by decide) (by decide) C9 HL1.out HL2.out HJ.out GB2 LA2 LB3 (by rw [ob_slice, ob_slice]; intro x hx hx'; simp at hx hx'; exact DJ2 (hx.symm.trans hx')) (by have := HIM.out; omega) BO2 ⟨ownsRow_base OX2.1 HBV.out, OX2.2⟩
                  exact AllReadyH.nil
                exact AllReadyH.nil
              exact AllReadyH.nil
            refine AllReadyH.cons (o := _) rfl (fun K hK => ?_) ?_
            ·
              rw [if_pos (by rfl)]
              go_simp
              refine hK.out _ _ (hHeld.alloc _) (fun hHeld => ?_)
              clear hK K
              try simp only [Act.put, List.setIfInBounds_toArray, List.set_cons_zero, List.set_cons_succ]
              have AL := Blk.new v7 #[.slice (some ⟨xg, 0, none⟩) i xc] 29
              replace GB := GB.alloc (.cells #[.slice (some ⟨xg, 0, none⟩) i xc] 29)
              replace BO1 := BO1.alloc (.cells #[.slice (some ⟨xg, 0, none⟩) i xc] 29)
              replace LA1 := LA1.alloc (.cells #[.slice (some ⟨xg, 0, none⟩) i xc] 29)
              replace LB2 := LB2.alloc (.cells #[.slice (some ⟨xg, 0, none⟩) i xc] 29)
              replace OX := OX.chg ((Chg.refl v7 []).alloc (.cells #[.slice (some ⟨xg, 0, none⟩) i xc] 29)) (by simp)
              refine wpAnyH_ready (rs := [4]) (by kernel_rfl) (by simp) ?_
              refine AllReadyH.cons (o := _) rfl (fun K hK => ?_) ?_
              ·
                have cg := GB.cell 1
                rw [gvC_get _ _ (by decide), upV_other _ _ _ _ (by decide), show G 1 = lb0 from HLB0.out] at cg
                rw [if_pos (by rfl)]
                go_simp
                refine hK.out _ _ (hHeld) (fun hHeld => ?_)
                clear hK K
                try simp only [Act.put, List.setIfInBounds_toArray, List.set_cons_zero, List.set_cons_succ]
                refine wpAnyH_ready (rs := [8]) (by kernel_rfl) (by simp) ?_
                refine AllReadyH.cons (o := _) rfl (fun K hK => ?_) ?_
                ·
                  rw [if_pos (by rfl)]
                  refine wp_append_lies _ (.tmp 50) (.tmp 53) 36 rfl base 29 inf (.slice none 0 0) 1 24 Tryz.underlying36 hinf hz hs1 hs2 rfl (by decide) lb0 Kn us rfl LB2 ⟨v7.heap.size, 0, none⟩ 1 1 [.slice (some ⟨xg, 0, none⟩) i xc] rfl rfl (fun j u hj => add_cell (by rw [Nat.zero_add, AL.cell]; simpa using hj)) (by simp [Value.oneCell']) (by decide) H63.out HBY.out (by simp; omega) (v7.heap.size + 1) (by simp) ?_
                  intro mg mc w8 O8 G8 hat8 hlt8
                  replace G8 := Chg.grown G8
                  have DJ2 : ¬ lg = mg := by
                    rcases hat8 with h | h
                    · intro e; exact DJ (by simp [ob, h, e])
                    · omega
                  refine hK.out _ _ (hHeld.trans1 (G8.incl (fun x hx => List.mem_cons_of_mem _ hx))) (fun hHeld => ?_)
                  clear hK K
                  try simp only [Act.put, List.setIfInBounds_toArray, List.set_cons_zero, List.set_cons_succ]
                  replace GB := GB.chg G8 g9
                  replace BO1 := BO1.chg G8 y9
                  replace LA1 := ownsRow_chg LA1 G8 (by rw [ob_slice]; simpa using DJ)
                  replace OX := OX.chg G8 (by rw [ob_slice]; simpa using xg9)
                  have mgg : ¬ mg = gb := by obtain ⟨C, hC⟩ := ownsRow_blk O8 (k := mg) (by rw [ob_slice]; simp); exact hC.ne GB (by decide)
                  clear G8 AL hat8 hlt8 LB2
                  refine take_val (v := ?_) 9 (some 55) rfl (by kernel_rfl) (by kernel_rfl) (by kernel_rfl) (fun _ _ _ h => h) rfl rfl (fun w hSw => ?_) hHeld ?_
                  rotate_left
                  · (go_simp; try with_reducible rfl)
                  try simp only [Act.put, List.setIfInBounds_toArray, List.set_cons_zero, List.set_cons_succ]
                  refine take_val (v := ?_) 10 (some 56) rfl (by kernel_rfl) (by kernel_rfl) (by kernel_rfl) (fun _ _ _ h => h) rfl rfl (fun w hSw => ?_) hHeld ?_
                  rotate_left
                  · (go_simp; try with_reducible rfl)
                  try simp only [Act.put, List.setIfInBounds_toArray, List.set_cons_zero, List.set_cons_succ]
                  refine wpAnyH_ready (rs := [11]) (by kernel_rfl) (by simp) ?_
                  refine AllReadyH.cons (o := _) rfl (fun K hK => ?_) ?_
                  ·
                    have cg := GB.cell 1
                    rw [gvC_get _ _ (by decide), upV_other _ _ _ _ (by decide), show G 1 = lb0 from HLB0.out] at cg
                    have fg := GB.frozen 1
                    rw [if_pos (by rfl)]
                    go_simp
                    refine hK.out _ _ (hHeld.setIn (by simp) _ _) (fun hHeld => ?_)
                    clear hK K
                    try simp only [Act.put, List.setIfInBounds_toArray, List.set_cons_zero, List.set_cons_succ]
                    refine wpAnyH_done (by kernel_rfl) ?_ _
                    have GB2 := (GB.setCell 1 (.slice (some ⟨mg, 0, none⟩) (Kn + 1) mc)).to (gvC_set _ _ _)
                    have SC := (Chg.refl w8 [gb]).setIn (k := gb) (by simp) 1 (.slice (some ⟨mg, 0, none⟩) (Kn + 1) mc)
                    have BO2 := BO1.chg SC (by simpa using yg)
                    have LA2 := ownsRow_chg LA1 SC (by rw [ob_slice]; simpa using lgg)
                    have LB3 := ownsRow_chg O8 SC (by rw [ob_slice]; simpa using mgg)
                    have OX2 := OX.chg SC (by rw [ob_slice]; simpa using xgg)
                    have C9 := CV.trans hHeld (fun x hx => Or.inl (HIN9.out x hx))
                    clear hHeld SC
                    go_wp2_with fail
                    go_ret
                    refine ⟨_, rfl, y, .slice (some ⟨lg, 0, none⟩) (Kn + 1) lc, .slice (some ⟨mg, 0, none⟩) (Kn + 1) mc, rfl, by rw [show w.heap.size = y from HY.out]; exact Nat.le_refl _, (HCW.out.wide).trans1 C9, by rw [show bR (gvf f k) = RR from HRR.out]; exact BO2, ?_⟩
                    rw [show bR (gvf f k) = RR from HRR.out]
                    exact Gv.more HG1.out (by decide) (by decide) C9 HL1.out HL2.out HJ.out GB2 LA2 LB3 (by rw [ob_slice, ob_slice]; intro x hx hx'; simp at hx hx'; exact DJ2 (hx.symm.trans hx')) (by have := HIM.out; omega) BO2 ⟨ownsRow_base OX2.1 HBV.out, OX2.2⟩
                  exact AllReadyH.nil
                exact AllReadyH.nil
              exact AllReadyH.nil
            exact AllReadyH.nil
          exact AllReadyH.nil
end Go.Proofs.YtgjclegpnbjlkaaGreatDoor

/- rimeplain.SameBytes of slices of the same bytes (nil or not). -/
namespace Go.Proofs.YtgjclegpnbjlkaaGreatDoor
open Go.RowKit

theorem SameBytes_e0 (p p' : Option Addr) (c c' : Nat) (w : World) : Calls Tryz.prog 10 #[.slice p 0 c, .slice p' 0 c'] w fun e w' => e = .returned (.bool true) ∧ Chg w w' [] := by
  go_enter Tryz.func10, Tryz.ntmps10
  go_wp2_with fail
  go_loopw [5] (fun t wr => t = .int .i64 0 ∧ Chg w wr []) (fun _ _ => 0)
  case atStart => exact ⟨rfl, Chg.refl w []⟩
  case round =>
    obtain ⟨rfl, cc⟩ := hrel
    go_wp2_with fail
    go_ret
    exact ⟨rfl, cc⟩
theorem SameBytes_any (v u : Value) (n : Nat) (f : Nat → Nat) (w : World) (hv : Sl w v n f) (hu : Sl w u n f) : Calls Tryz.prog 10 #[v, u] w fun e w' => e = .returned (.bool true) ∧ Chg w w' [] := by
  by_cases h0 : n = 0
  · subst h0
    have form : ∀ x, Sl w x 0 f → ∃ p c, x = .slice p 0 c := by
      intro x hx
      rcases hx with ⟨_, e⟩ | ⟨g, o, c, e, _⟩
      · exact ⟨_, _, e⟩
      · exact ⟨_, _, e⟩
    obtain ⟨p, c, rfl⟩ := form v hv
    obtain ⟨p', c', rfl⟩ := form u hu
    exact SameBytes_e0 p p' c c' w
  rcases hv with ⟨h, _⟩ | ⟨g, o, c, rfl, hn, hc, hb⟩
  · omega
  rcases hu with ⟨h, _⟩ | ⟨g', o', c', rfl, hn', hc', hb'⟩
  · omega
  refine (SameBytes_g g o c g' o' c' n f f w (by omega) hb hb' (fun _ _ => rfl)).mono ?_
  rintro e w' ⟨rfl, m, rfl⟩
  exact ⟨rfl, (Chg.refl w []).drewN m⟩
theorem Rl.sl {w : World} {v : Value} {n : Nat} {f : Nat → Nat} (h : Rl w 1 v n (bR f)) (hf : ∀ i, i < n → f i < 256) : Sl w v n f := by
  rcases h.2 with h2 | ⟨g, o, cap, e, h1, h2, h3, h4⟩
  · exact Or.inl h2
  · refine Or.inr ⟨g, o, cap, e, h1, h2, h3, hf, fun i hi => ?_⟩
    have q := h4 i hi 0 _ rfl
    rwa [Nat.mul_one, Nat.add_zero] at q
end Go.Proofs.YtgjclegpnbjlkaaGreatDoor
