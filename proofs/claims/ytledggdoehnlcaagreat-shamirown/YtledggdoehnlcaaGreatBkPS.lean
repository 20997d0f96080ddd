/- Book.apartScalars over lists that are full and lie apart. -/
import Derived.Test.YtledggdoehnlcaaGreatMgP
import Derived.Test.YtledggdoehnlcaaGreatMgO
import Derived.Great.BuildSlice
set_option linter.unusedVariables false
set_option linter.unusedSimpArgs false
set_option linter.unnecessarySimpa false
namespace Go.Proofs.YtledggdoehnlcaaGreat
open Go.RowKit N

theorem fill_fe (X : Int) : Instr.fill (fun i => some (i * 32, 32)) ((Array.range (1 * 32)).map ((Value.agg z32).cells[· % (Value.agg z32).cells.size]!)) [(0, fe X)] = some (feC X) := by kernel_rfl
/-- A slice of one number made. -/
theorem build_fe {w : World} {ops : Array Oper} {rest : List Oper} {op : Oper} {a : Act} {Q : Exit → Act → World → Prop} (hg : op.guard = none) (x : Operand) (ho : op.op = .buildSlice 29 1 #[(0, x)]) (X : Int) (hx : a.eval x = fe X)
    (h : wpList Tryz.prog ops Q rest (a.put op.dst (.slice (some ⟨w.heap.size, 0, none⟩) 1 1)) (w.alloc (.cells (feC X) 24))) : wpList Tryz.prog ops Q (op :: rest) a w := by
  obtain ⟨inf, hinf, hz, hs1, hs2⟩ := scRow
  refine wpList_buildSlice hg 29 24 1 #[(0, x)] ho (feC X) inf (.agg z32) Tryz.underlying29 hinf hz (by rw [hs1]; decide) (by rw [hs1]; decide) ?_ h
  rw [hs1]
  simp only [List.map_toArray, List.map_cons, List.map_nil, hx]
  exact fill_fe X
theorem rl_one {w : World} {b : Nat} {X : Int} {T : TypeId} (h : Blk w b (feC X) T) : Rl w 32 (.slice (some ⟨b, 0, none⟩) 1 1) 1 (fun _ => feL X) := by
  refine ⟨fun _ _ => feL_ok X, Or.inr ⟨b, 0, 1, rfl, Nat.le_refl _, by decide, h.lt, fun j hj => ?_⟩⟩
  obtain rfl : j = 0 := by omega
  intro q u hu
  rw [h.cell]
  simpa using hu
theorem cell_l {w w' : World} {g k : Nat} {v : Value} {l : List Nat} (h : w.cell? ⟨g, k, none⟩ = some v) (hc : Chg w w' l) (hn : ¬ g ∈ l) : w'.cell? ⟨g, k, none⟩ = some v := by
  have hl : g < w.heap.size := by
    by_cases hl : g < w.heap.size
    · exact hl
    · simp [World.cell?, Array.getElem?_eq_none (Nat.le_of_not_lt hl)] at h
  rw [← h]
  simp only [World.cell?, hc.block g hl hn]
theorem gl_load_fe {w : World} {ops : Array Oper} {rest : List Oper} {op : Oper} {a : Act} {Q : Exit → Act → World → Prop} (hw : Region.wanted op (yielded ops a.tmps) = true) (x : Operand) (ho : op.op = .load 24 x) (b o : Nat) (X : Int) (hx : a.eval x = .pointer (some ⟨b, o, none⟩)) (hc : w.rangeAt b o (feL X))
    (h : wpList Tryz.prog ops Q rest (a.put op.dst (fe X)) w) : wpList Tryz.prog ops Q (op :: rest) a w := by
  unfold wpList
  rw [if_pos hw]
  exact Or.inl (wp_load_mid 24 x ho b o hx (feL X) _ hc Tryz.underlying24 rfl feInfo h)
/-- The mark of list j at place r. -/
def mk (j r : Nat) : List Value := feL ((mkS j r : Nat) : Int)
theorem mk_okr (j : Nat) : ∀ r, (mk j r).length = 32 ∧ ∀ v ∈ mk j r, v.oneCell' = true := fun _ => feL_ok _
def mA (F : Nat → Nat → List Value) (i j : Nat) : Nat → List Value := fun r => if j < i then mk j r else F j r
def mB (F : Nat → Nat → List Value) (i k : Nat) : Nat → List Value := fun r => if r < k then mk i r else F i r
theorem mA_0 (F : Nat → Nat → List Value) (j : Nat) : mA F 0 j = F j := by funext r; unfold mA; rw [if_neg (by omega)]
theorem mA_all (F : Nat → Nat → List Value) (K j : Nat) (h : j < K) : mA F K j = mk j := by funext r; unfold mA; rw [if_pos h]
theorem mA_self (F : Nat → Nat → List Value) (i : Nat) : mA F i i = F i := by funext r; unfold mA; rw [if_neg (by omega)]
theorem mA_step (F : Nat → Nat → List Value) (i j : Nat) (h : ¬ j = i) : mA F (i + 1) j = mA F i j := by
  funext r
  unfold mA
  by_cases h1 : j < i
  · rw [if_pos h1, if_pos (by omega)]
  · rw [if_neg h1, if_neg (by omega)]
theorem mB_0 (F : Nat → Nat → List Value) (i : Nat) : mB F i 0 = F i := by funext r; unfold mB; rw [if_neg (by omega)]
theorem mB_up (F : Nat → Nat → List Value) (i k : Nat) : upR (mB F i k) k (mk i k) = mB F i (k + 1) := by
  funext r
  unfold upR mB
  by_cases h : r = k
  · subst h; rw [if_pos rfl, if_pos (by omega)]
  · rw [if_neg h]
    by_cases h1 : r < k
    · rw [if_pos h1, if_pos (by omega)]
    · rw [if_neg h1, if_neg (by omega)]
theorem mB_end (F : Nat → Nat → List Value) (i n : Nat) : rL 32 n (mB F i n) = rL 32 n (mA F (i + 1) i) := rL_congr fun r hr => by unfold mB mA; rw [if_pos hr, if_pos (by omega)]
theorem mB_ok (F : Nat → Nat → List Value) (i k n : Nat) (h : Rok 32 n (F i)) : Rok 32 n (mB F i k) := fun r hr => by
  unfold mB
  by_cases h1 : r < k
  · rw [if_pos h1]; exact feL_ok _
  · rw [if_neg h1]; exact h r hr
def os (o : Nat → Nat) (K : Nat) : List Nat := (List.range K).map o
theorem mem_os {o : Nat → Nat} {K x : Nat} (h : x ∈ os o K) : ∃ j, j < K ∧ o j = x := by simpa [os] using h
theorem os_mem (o : Nat → Nat) {K j : Nat} (h : j < K) : o j ∈ os o K := by simp [os]; exact ⟨j, h, rfl⟩
set_option maxHeartbeats 16000000 in
set_option maxRecDepth 100000 in
theorem apartScalars_s (gb lg lc K : Nat) (B : Nat → Value) (T : TypeId) (o N : Nat → Nat) (F : Nat → Nat → List Value) (hK0 : K ≤ 1000) (hN : ∀ j, j < K → 0 < N j ∧ N j ≤ 4398046510976) (hB : B 4 = .slice (some ⟨lg, 0, none⟩) K lc) (hlc : K ≤ lc) (w : World) (hg : Blk w gb (bkC B) T)
    (hc : ∀ j, j < K → w.cell? ⟨lg, j, none⟩ = some (.slice (some ⟨o j, 0, none⟩) (N j) (N j))) (hlg : lg < w.heap.size) (hlo : ∀ j, j < K → ¬ lg = o j) (hAB : ∀ j, j < K → Blk w (o j) (rL 32 (N j) (F j)).toArray 24) (hR : ∀ j, j < K → Rok 32 (N j) (F j)) (hd : ∀ i j, i < K → j < K → ¬ i = j → ¬ o i = o j) :
    Calls Tryz.prog 51 #[.pointer (some ⟨gb, 0, none⟩)] w fun e w' => e = .returned (.bool true) ∧ Chg w w' (os o K) := by
  have c0 := (hg.cell 4).trans (bkC_get B 4 (by decide))
  rw [hB] at c0
  have HK : Hid (K ≤ 1000) := hK0
  have HN : Hid (∀ j, j < K → 0 < N j ∧ N j ≤ 4398046510976) := hN
  have HAB : Hid (∀ j, j < K → Blk w (o j) (rL 32 (N j) (F j)).toArray 24) := hAB
  have HR : Hid (∀ j, j < K → Rok 32 (N j) (F j)) := hR
  have HD : Hid (∀ i j, i < K → j < K → ¬ i = j → ¬ o i = o j) := hd
  have HLO : Hid (¬ lg ∈ os o K) := fun hm => by obtain ⟨j, hj, he⟩ := mem_os hm; exact hlo j hj he.symm
  have HC : Hid (∀ w', Chg w w' (os o K) → ∀ j, j < K → w'.cell? ⟨lg, j, none⟩ = some (.slice (some ⟨o j, 0, none⟩) (N j) (N j))) := fun w' h j hj => cell_l (hc j hj) h HLO.out
  have HLL : Hid (K ≤ lc) := hlc
  clear hB hK0 hN hg hc hlg hlo hAB hR hd hlc
  go_enter Tryz.func51, Tryz.ntmps51
  go_wp2_with fail
  go_loopw [4] (fun t wr => ∃ i : Nat, i ≤ K ∧ t = .int .i64 (i : Int) ∧ (∀ j, j < K → Blk wr (o j) (rL 32 (N j) (mA F i j)).toArray 24) ∧ Chg w wr (os o K)) (fun t _ => ((K : Int) - intOf t).toNat)
  case atStart => exact ⟨0, Nat.zero_le _, rfl, fun j hj => by rw [mA_0]; exact HAB.out j hj, Chg.refl _ _⟩
  case round =>
    clear c0
    obtain ⟨i, hi, rfl, AB, C⟩ := hrel
    obtain ⟨wi, hwi⟩ : ∃ x, x = wr := ⟨_, rfl⟩
    subst hwi
    by_cases h8 : i = K
    · subst h8
      have hI : ¬ (i : Int) < (i : Int) := by omega
      have HA : Hid (∀ j, j < i → Blk wi (o j) (rL 32 (N j) (mk j)).toArray 24) := fun j hj => by have q := AB j hj; rw [mA_all F i j hj] at q; exact q
      clear AB hi
      go_wp2_with fail
      have HB1 : Hid (∀ j, j < i → Rl wi 32 (.slice (some ⟨o j, 0, none⟩) (N j) (N j)) (N j) (mk j)) := fun j hj => ⟨fun r _ => mk_okr j r, Or.inr ⟨o j, 0, N j, rfl, Nat.le_refl _, by have := (HN.out j hj).2; omega, (HA.out j hj).lt, fun r hr => by rw [Nat.zero_add]; exact (HA.out j hj).rangeRw (fun r _ => mk_okr j r) hr⟩⟩
      have HC2 : Hid (∀ w', Chg wi w' [] → ∀ j, j < i → w'.cell? ⟨lg, j, none⟩ = some (.slice (some ⟨o j, 0, none⟩) (N j) (N j))) := fun w' h j hj => HC.out w' (C.trans1 h.wide) j hj
      have HCC : Hid (∀ w', Chg wi w' [] → Chg w w' (os o i)) := fun w' h => C.trans1 h.wide
      clear C HC HD HLO HR HAB HA
      go_loopw [6, 7] (fun tg t wr => ∃ (p : Nat) (us : List Value), p ≤ i ∧ t = .int .i64 (p : Int) ∧ wr.ownsRow wi.heap.size 29 1 tg p us ∧ (∀ j, j < p → ∃ x, us[j]? = some x ∧ OwnR wr wi.heap.size 24 32 x (N j + 40) (mk j)) ∧ Chg wi wr []) (fun _ t _ => ((i : Int) - intOf t).toNat)
      case atStart => exact ⟨0, [], Nat.zero_le _, rfl, World.ownsRow_nil _ _ _ _, fun j hj => absurd hj (by omega), Chg.refl _ _⟩
      case round =>
        obtain ⟨p, us, hp, rfl, OL, HX, C3⟩ := hrel
        obtain ⟨wb, hwb⟩ : ∃ x, x = wr := ⟨_, rfl⟩
        subst hwb
        by_cases h10 : p = i
        · subst h10
          have hJ : ¬ (p : Int) < (p : Int) := by omega
          clear hp
          go_wp2_with fail
          go_loopw [10] (fun t wr => ∃ q : Nat, q ≤ p ∧ t = .int .i64 (q : Int) ∧ Chg wb wr []) (fun t _ => ((p : Int) - intOf t).toNat)
          case atStart => exact ⟨0, Nat.zero_le _, rfl, Chg.refl _ _⟩
          case round =>
            obtain ⟨q, hq, rfl, C5⟩ := hrel
            obtain ⟨wc, hwc⟩ : ∃ x, x = wr := ⟨_, rfl⟩
            subst hwc
            by_cases h12 : q = p
            · subst h12
              have hL : ¬ (q : Int) < (q : Int) := by omega
              have CE := HCC.out _ (C3.trans1 C5)
              go_wp2_with fail
              go_ret
              exact ⟨rfl, CE⟩
            · have hqp : q < p := by omega
              have hL : (q : Int) < (p : Int) := by omega
              have e5 : IntKind.i64.wrap ((q : Int) + 1) = (q : Int) + 1 := by have := HK.out; rw [IntKind.wrap_i64]; omega
              obtain ⟨hn0, hn1⟩ := HN.out q hqp
              obtain ⟨x, hx1, hx2⟩ := HX q hqp
              obtain ⟨gg, gc, hgv, _, _⟩ := OL.form (by omega)
              subst hgv
              have cx := ownsRow_cell OL hx1
              obtain ⟨xg, xc, rfl, _, _⟩ := hx2.1.form (by omega)
              have RL := (HB1.out q hqp).chg C3 (Off.nil _)
              have HCY : Hid (∀ W, Chg wb W [] → W.cell? ⟨lg, q, none⟩ = some (.slice (some ⟨o q, 0, none⟩) (N q) (N q))) := fun W h => HC2.out W (C3.trans1 h) q hqp
              obtain ⟨y, hy⟩ : ∃ y, o q = y := ⟨_, rfl⟩
              obtain ⟨n, hn⟩ : ∃ n, N q = n := ⟨_, rfl⟩
              rw [hy, hn] at RL HCY
              rw [hn] at hx2 cx hn0 hn1
              obtain ⟨nk, hnk⟩ : ∃ m, n + 40 = m := ⟨_, rfl⟩
              rw [hnk] at hx2 cx
              have HXR : Hid (∀ W, Chg wb W [] → ∀ k, k < nk → W.rangeAt xg (k * 32) (mk q k)) := fun W hW k hk => by
                have r := hx2.rl.chg hW (Off.nil _)
                rcases r.2 with ⟨h0, _⟩ | ⟨g', o', cap', he, _, _, _, h4⟩
                · omega
                · simp at he
                  obtain ⟨⟨rfl, rfl⟩, rfl⟩ := he
                  have q1 := h4 k hk
                  rw [Nat.zero_add] at q1
                  exact q1
              have HLR : Hid (∀ W, Chg wb W [] → ∀ k, k < n → W.rangeAt y (k * 32) (mk q k)) := fun W hW k hk => by
                have r := RL.chg hW (Off.nil _)
                rcases r.2 with ⟨h0, _⟩ | ⟨g', o', cap', he, _, _, _, h4⟩
                · omega
                · simp at he
                  obtain ⟨⟨rfl, rfl⟩, rfl⟩ := he
                  have q1 := h4 k hk
                  rw [Nat.zero_add] at q1
                  exact q1
              have HCX : Hid (∀ W, Chg wb W [] → W.cell? ⟨gg, q, none⟩ = some (.slice (some ⟨xg, 0, none⟩) nk xc)) := fun W h => cell_l cx h (by simp)
              have HQP : Hid (q < p) := hqp
              have HNK : Hid (nk ≤ 4398046511016) := by show nk ≤ _; omega
              have HQM : Hid (q ≤ 140737488355331) := by have := HK.out; show q ≤ _; omega
              have HM5 : Hid (((p : Int) - intOf (.int .i64 ((q : Int) + 1))).toNat < ((p : Int) - intOf (.int .i64 (q : Int))).toNat) := by show ((p : Int) - intOf (.int .i64 ((q : Int) + 1))).toNat < ((p : Int) - intOf (.int .i64 (q : Int))).toNat; simp [intOf] <;> omega
              have c1 := HCX.out wc C5
              clear RL cx hx1 hx2 HX OL hy hn hnk hn0 hn1 hqp h12 hq
              go_wp2_with fail
              go_loopw [11] (fun t wr => ∃ k : Nat, k ≤ nk ∧ t = .int .i64 (k : Int) ∧ Chg wb wr []) (fun t _ => ((nk : Int) - intOf t).toNat)
              case atStart => exact ⟨0, Nat.zero_le _, rfl, C5⟩
              case round =>
                clear c1
                obtain ⟨k, hk, rfl, C6⟩ := hrel
                have c1 := HCX.out wr C6
                by_cases h13 : k = nk
                · subst h13
                  have hJ2 : ¬ (k : Int) < (k : Int) := by omega
                  go_wp2_with fail
                  exact ⟨⟨q + 1, HQP.out, rfl, C6⟩, HM5.out⟩
                · have hkn : k < nk := by omega
                  have hJ2 : (k : Int) < (nk : Int) := by omega
                  have e6 : IntKind.i64.wrap ((k : Int) + 1) = (k : Int) + 1 := by have := HNK.out; rw [IntKind.wrap_i64]; omega
                  have HKN : Hid (k < nk) := hkn
                  have HKM : Hid (k ≤ 140737488355331) := by have := HNK.out; show k ≤ _; omega
                  have HM6 : Hid (((nk : Int) - intOf (.int .i64 ((k : Int) + 1))).toNat < ((nk : Int) - intOf (.int .i64 (k : Int))).toNat) := by show ((nk : Int) - intOf (.int .i64 ((k : Int) + 1))).toNat < ((nk : Int) - intOf (.int .i64 (k : Int))).toNat; simp [intOf] <;> omega
                  clear h13 hk hkn
                  go_wp2_with fail
                  refine (markScalars_s q k HQM.out HKM.out _).mono ?_
                  rintro e w5 ⟨rfl, q5⟩
                  have HXX : Hid (mk q k = feL ((mkS q k : Nat) : Int)) := rfl
                  obtain ⟨X, hX⟩ : ∃ X : Int, ((mkS q k : Nat) : Int) = X := ⟨_, rfl⟩
                  rw [hX] at HXX ⊢
                  have G0 := Blk.new w5 z32 24
                  have WB : Blk ((w5.alloc (.cells z32 24)).setRow w5.heap.size (feC X)) w5.heap.size (feC X) 24 := G0.setRow (feC X)
                  have CV : Chg wb ((w5.alloc (.cells z32 24)).setRow w5.heap.size (feC X)) [] := (C6.trans1 q5).trans1 (((Chg.refl w5 []).alloc (.cells z32 24)).setRowNew (Nat.le_refl _) (feC X))
                  clear c1 hX q5
                  go_wp2_with (refine wpList_store_row rfl 24 _ _ rfl w5.heap.size (feC X) rfl rfl 24 _ G0 feInfo rfl (feC_one _) ?_)
                  clear G0
                  change Code.wp _ _ _ _ ((w5.alloc (.cells z32 24)).setRow w5.heap.size (feC X))
                  generalize ((w5.alloc (.cells z32 24)).setRow w5.heap.size (feC X)) = wv at *
                  generalize w5.heap.size = gw at *
                  by_cases hkn : k < n
                  · have HKL : Hid (k < n) := hkn
                    have hO : (k : Int) < (n : Int) := by omega
                    clear hkn
                    refine wp_region_held_drew (S := fun w' => Chg wv w' []) (by kernel_rfl) ((Chg.refl wv _).drew) (fun hHeld => ?_)
                    refine take_val (v := ?_) 0 (some 84) rfl (by kernel_rfl) (by kernel_rfl) (by kernel_rfl) (fun _ _ _ h => h) rfl rfl (fun w hSw => ?_) hHeld ?_
                    rotate_left
                    · (go_simp; try with_reducible rfl)
                    try simp only [Act.put, List.setIfInBounds_toArray, List.set_cons_zero, List.set_cons_succ]
                    refine take_val (v := ?_) 1 (some 85) rfl (by kernel_rfl) (by kernel_rfl) (by kernel_rfl) (fun _ _ _ h => h) rfl rfl (fun w hSw => ?_) hHeld ?_
                    rotate_left
                    · (go_simp; try with_reducible rfl)
                    try simp only [Act.put, List.setIfInBounds_toArray, List.set_cons_zero, List.set_cons_succ]
                    refine take_val (v := ?_) 2 (some 86) rfl (by kernel_rfl) (by kernel_rfl) (by kernel_rfl) (fun _ _ _ h => h) rfl rfl (fun w hSw => ?_) hHeld ?_
                    rotate_left
                    · (go_simp; try with_reducible rfl)
                    try simp only [Act.put, List.setIfInBounds_toArray, List.set_cons_zero, List.set_cons_succ]
                    refine take_val (v := (.slice (some ⟨xg, 0, none⟩) nk xc)) 3 (some 87) rfl (by kernel_rfl) (by kernel_rfl) (by kernel_rfl) (fun _ _ _ h => h) rfl rfl (fun w hSw => ?_) hHeld ?_
                    · have c4 := HCX.out w (CV.trans1 hSw)
                      (go_simp; try with_reducible rfl)
                    try simp only [Act.put, List.setIfInBounds_toArray, List.set_cons_zero, List.set_cons_succ]
                    refine take_val (v := ?_) 4 (some 88) rfl (by kernel_rfl) (by kernel_rfl) (by kernel_rfl) (fun _ _ _ h => h) rfl rfl (fun w hSw => ?_) hHeld ?_
                    rotate_left
                    · (go_simp; try with_reducible rfl)
                    try simp only [Act.put, List.setIfInBounds_toArray, List.set_cons_zero, List.set_cons_succ]
                    refine take_val (v := ?_) 5 (some 89) rfl (by kernel_rfl) (by kernel_rfl) (by kernel_rfl) (fun _ _ _ h => h) rfl rfl (fun w hSw => ?_) hHeld ?_
                    rotate_left
                    · (go_simp; try with_reducible rfl)
                    try simp only [Act.put, List.setIfInBounds_toArray, List.set_cons_zero, List.set_cons_succ]
                    refine take_val (v := (fe X)) 6 (some 90) rfl (by kernel_rfl) (by kernel_rfl) (by kernel_rfl) (fun _ _ _ h => h) rfl rfl (fun w hSw => ?_) hHeld ?_
                    · have r9 := HXR.out w (CV.trans1 hSw) k HKN.out
                      rw [HXX.out] at r9
                      exact exec_load_mid w 24 _ rfl xg (k * 32) rfl (feL X) _ r9 Tryz.underlying24 rfl feInfo
                    try simp only [Act.put, List.setIfInBounds_toArray, List.set_cons_zero, List.set_cons_succ]
                    refine take_load 7 (some 91) (feC X) rfl (by kernel_rfl) (by kernel_rfl) (by kernel_rfl) (fun _ _ _ h => h) rfl rfl 24 _ rfl gw rfl 24 _ (fun w h => WB.chg h (by simp)) Tryz.underlying24 rfl (by first | exact feInfo | kernel_rfl) hHeld ?_
                    try simp only [Act.put, List.setIfInBounds_toArray, List.set_cons_zero, List.set_cons_succ]
                    refine take_val (v := (.bool false)) 8 (some 92) rfl (by kernel_rfl) (by kernel_rfl) (by kernel_rfl) (fun _ _ _ h => h) rfl rfl (fun w hSw => ?_) hHeld ?_
                    · (go_simp; try with_reducible rfl)
                    try simp only [Act.put, List.setIfInBounds_toArray, List.set_cons_zero, List.set_cons_succ]
                    refine take_val (v := (.bool false)) 9 (some 93) rfl (by kernel_rfl) (by kernel_rfl) (by kernel_rfl) (fun _ _ _ h => h) rfl rfl (fun w hSw => ?_) hHeld ?_
                    · (go_simp; try with_reducible rfl)
                    try simp only [Act.put, List.setIfInBounds_toArray, List.set_cons_zero, List.set_cons_succ]
                    refine take_val (v := ?_) 10 (some 94) rfl (by kernel_rfl) (by kernel_rfl) (by kernel_rfl) (fun _ _ _ h => h) rfl rfl (fun w hSw => ?_) hHeld ?_
                    rotate_left
                    · (go_simp; try with_reducible rfl)
                    try simp only [Act.put, List.setIfInBounds_toArray, List.set_cons_zero, List.set_cons_succ]
                    refine take_val (v := ?_) 11 (some 95) rfl (by kernel_rfl) (by kernel_rfl) (by kernel_rfl) (fun _ _ _ h => h) rfl rfl (fun w hSw => ?_) hHeld ?_
                    rotate_left
                    · (go_simp; try with_reducible rfl)
                    try simp only [Act.put, List.setIfInBounds_toArray, List.set_cons_zero, List.set_cons_succ]
                    refine take_val (v := ?_) 12 (some 96) rfl (by kernel_rfl) (by kernel_rfl) (by kernel_rfl) (fun _ _ _ h => h) rfl rfl (fun w hSw => ?_) hHeld ?_
                    rotate_left
                    · (go_simp; try with_reducible rfl)
                    try simp only [Act.put, List.setIfInBounds_toArray, List.set_cons_zero, List.set_cons_succ]
                    refine take_val (v := ?_) 13 (some 97) rfl (by kernel_rfl) (by kernel_rfl) (by kernel_rfl) (fun _ _ _ h => h) rfl rfl (fun w hSw => ?_) hHeld ?_
                    rotate_left
                    · (go_simp; try with_reducible rfl)
                    try simp only [Act.put, List.setIfInBounds_toArray, List.set_cons_zero, List.set_cons_succ]
                    refine take_val (v := (.slice (some ⟨y, 0, none⟩) n n)) 14 (some 98) rfl (by kernel_rfl) (by kernel_rfl) (by kernel_rfl) (fun _ _ _ h => h) rfl rfl (fun w hSw => ?_) hHeld ?_
                    · have c4 := HCY.out w (CV.trans1 hSw)
                      (go_simp; try with_reducible rfl)
                    try simp only [Act.put, List.setIfInBounds_toArray, List.set_cons_zero, List.set_cons_succ]
                    refine take_val (v := (.int .i64 (n : Int))) 15 (some 99) rfl (by kernel_rfl) (by kernel_rfl) (by kernel_rfl) (fun _ _ _ h => h) rfl rfl (fun w hSw => ?_) hHeld ?_
                    · (go_simp; try with_reducible rfl)
                    try simp only [Act.put, List.setIfInBounds_toArray, List.set_cons_zero, List.set_cons_succ]
                    refine take_val (v := (.bool true)) 16 (some 100) rfl (by kernel_rfl) (by kernel_rfl) (by kernel_rfl) (fun _ _ _ h => h) rfl rfl (fun w hSw => ?_) hHeld ?_
                    · (go_simp; try with_reducible rfl)
                    try simp only [Act.put, List.setIfInBounds_toArray, List.set_cons_zero, List.set_cons_succ]
                    refine take_val (v := (.bool true)) 17 (some 101) rfl (by kernel_rfl) (by kernel_rfl) (by kernel_rfl) (fun _ _ _ h => h) rfl rfl (fun w hSw => ?_) hHeld ?_
                    · (go_simp; try with_reducible rfl)
                    try simp only [Act.put, List.setIfInBounds_toArray, List.set_cons_zero, List.set_cons_succ]
                    refine take_val (v := ?_) 18 (some 102) rfl (by kernel_rfl) (by kernel_rfl) (by kernel_rfl) (fun _ _ _ h => h) rfl rfl (fun w hSw => ?_) hHeld ?_
                    rotate_left
                    · (go_simp; try with_reducible rfl)
                    try simp only [Act.put, List.setIfInBounds_toArray, List.set_cons_zero, List.set_cons_succ]
                    refine take_val (v := ?_) 19 (some 103) rfl (by kernel_rfl) (by kernel_rfl) (by kernel_rfl) (fun _ _ _ h => h) rfl rfl (fun w hSw => ?_) hHeld ?_
                    rotate_left
                    · (go_simp; try with_reducible rfl)
                    try simp only [Act.put, List.setIfInBounds_toArray, List.set_cons_zero, List.set_cons_succ]
                    refine take_val (v := ?_) 20 (some 104) rfl (by kernel_rfl) (by kernel_rfl) (by kernel_rfl) (fun _ _ _ h => h) rfl rfl (fun w hSw => ?_) hHeld ?_
                    rotate_left
                    · (go_simp; try with_reducible rfl)
                    try simp only [Act.put, List.setIfInBounds_toArray, List.set_cons_zero, List.set_cons_succ]
                    refine take_val (v := (.slice (some ⟨y, 0, none⟩) n n)) 21 (some 105) rfl (by kernel_rfl) (by kernel_rfl) (by kernel_rfl) (fun _ _ _ h => h) rfl rfl (fun w hSw => ?_) hHeld ?_
                    · have c4 := HCY.out w (CV.trans1 hSw)
                      (go_simp; try with_reducible rfl)
                    try simp only [Act.put, List.setIfInBounds_toArray, List.set_cons_zero, List.set_cons_succ]
                    refine take_val (v := ?_) 22 (some 106) rfl (by kernel_rfl) (by kernel_rfl) (by kernel_rfl) (fun _ _ _ h => h) rfl rfl (fun w hSw => ?_) hHeld ?_
                    rotate_left
                    · (go_simp; try with_reducible rfl)
                    try simp only [Act.put, List.setIfInBounds_toArray, List.set_cons_zero, List.set_cons_succ]
                    refine take_val (v := ?_) 23 (some 107) rfl (by kernel_rfl) (by kernel_rfl) (by kernel_rfl) (fun _ _ _ h => h) rfl rfl (fun w hSw => ?_) hHeld ?_
                    rotate_left
                    · (go_simp; try with_reducible rfl)
                    try simp only [Act.put, List.setIfInBounds_toArray, List.set_cons_zero, List.set_cons_succ]
                    refine take_val (v := (fe X)) 24 (some 108) rfl (by kernel_rfl) (by kernel_rfl) (by kernel_rfl) (fun _ _ _ h => h) rfl rfl (fun w hSw => ?_) hHeld ?_
                    · have r9 := HLR.out w (CV.trans1 hSw) k HKL.out
                      rw [HXX.out] at r9
                      exact exec_load_mid w 24 _ rfl y (k * 32) rfl (feL X) _ r9 Tryz.underlying24 rfl feInfo
                    try simp only [Act.put, List.setIfInBounds_toArray, List.set_cons_zero, List.set_cons_succ]
                    refine take_load 25 (some 109) (feC X) rfl (by kernel_rfl) (by kernel_rfl) (by kernel_rfl) (fun _ _ _ h => h) rfl rfl 24 _ rfl gw rfl 24 _ (fun w h => WB.chg h (by simp)) Tryz.underlying24 rfl (by first | exact feInfo | kernel_rfl) hHeld ?_
                    try simp only [Act.put, List.setIfInBounds_toArray, List.set_cons_zero, List.set_cons_succ]
                    refine take_val (v := (.bool false)) 26 (some 110) rfl (by kernel_rfl) (by kernel_rfl) (by kernel_rfl) (fun _ _ _ h => h) rfl rfl (fun w hSw => ?_) hHeld ?_
                    · (go_simp; try with_reducible rfl)
                    try simp only [Act.put, List.setIfInBounds_toArray, List.set_cons_zero, List.set_cons_succ]
                    refine take_val (v := (.bool false)) 27 (some 111) rfl (by kernel_rfl) (by kernel_rfl) (by kernel_rfl) (fun _ _ _ h => h) rfl rfl (fun w hSw => ?_) hHeld ?_
                    · (go_simp; try with_reducible rfl)
                    try simp only [Act.put, List.setIfInBounds_toArray, List.set_cons_zero, List.set_cons_succ]
                    refine take_val (v := (.bool false)) 28 (some 112) rfl (by kernel_rfl) (by kernel_rfl) (by kernel_rfl) (fun _ _ _ h => h) rfl rfl (fun w hSw => ?_) hHeld ?_
                    · (go_simp; try with_reducible rfl)
                    try simp only [Act.put, List.setIfInBounds_toArray, List.set_cons_zero, List.set_cons_succ]
                    refine wpAnyH_done (by kernel_rfl) ?_ _
                    go_wp2_with fail
                    exact ⟨⟨k + 1, HKN.out, rfl, CV.trans1 hHeld⟩, HM6.out⟩
                  · have hO : ¬ (k : Int) < (n : Int) := by omega
                    clear hkn
                    refine wp_region_held_drew (S := fun w' => Chg wv w' []) (by kernel_rfl) ((Chg.refl wv _).drew) (fun hHeld => ?_)
                    refine take_val (v := ?_) 0 (some 84) rfl (by kernel_rfl) (by kernel_rfl) (by kernel_rfl) (fun _ _ _ h => h) rfl rfl (fun w hSw => ?_) hHeld ?_
                    rotate_left
                    · (go_simp; try with_reducible rfl)
                    try simp only [Act.put, List.setIfInBounds_toArray, List.set_cons_zero, List.set_cons_succ]
                    refine take_val (v := ?_) 1 (some 85) rfl (by kernel_rfl) (by kernel_rfl) (by kernel_rfl) (fun _ _ _ h => h) rfl rfl (fun w hSw => ?_) hHeld ?_
                    rotate_left
                    · (go_simp; try with_reducible rfl)
                    try simp only [Act.put, List.setIfInBounds_toArray, List.set_cons_zero, List.set_cons_succ]
                    refine take_val (v := ?_) 2 (some 86) rfl (by kernel_rfl) (by kernel_rfl) (by kernel_rfl) (fun _ _ _ h => h) rfl rfl (fun w hSw => ?_) hHeld ?_
                    rotate_left
                    · (go_simp; try with_reducible rfl)
                    try simp only [Act.put, List.setIfInBounds_toArray, List.set_cons_zero, List.set_cons_succ]
                    refine take_val (v := (.slice (some ⟨xg, 0, none⟩) nk xc)) 3 (some 87) rfl (by kernel_rfl) (by kernel_rfl) (by kernel_rfl) (fun _ _ _ h => h) rfl rfl (fun w hSw => ?_) hHeld ?_
                    · have c4 := HCX.out w (CV.trans1 hSw)
                      (go_simp; try with_reducible rfl)
                    try simp only [Act.put, List.setIfInBounds_toArray, List.set_cons_zero, List.set_cons_succ]
                    refine take_val (v := ?_) 4 (some 88) rfl (by kernel_rfl) (by kernel_rfl) (by kernel_rfl) (fun _ _ _ h => h) rfl rfl (fun w hSw => ?_) hHeld ?_
                    rotate_left
                    · (go_simp; try with_reducible rfl)
                    try simp only [Act.put, List.setIfInBounds_toArray, List.set_cons_zero, List.set_cons_succ]
                    refine take_val (v := ?_) 5 (some 89) rfl (by kernel_rfl) (by kernel_rfl) (by kernel_rfl) (fun _ _ _ h => h) rfl rfl (fun w hSw => ?_) hHeld ?_
                    rotate_left
                    · (go_simp; try with_reducible rfl)
                    try simp only [Act.put, List.setIfInBounds_toArray, List.set_cons_zero, List.set_cons_succ]
                    refine take_val (v := (fe X)) 6 (some 90) rfl (by kernel_rfl) (by kernel_rfl) (by kernel_rfl) (fun _ _ _ h => h) rfl rfl (fun w hSw => ?_) hHeld ?_
                    · have r9 := HXR.out w (CV.trans1 hSw) k HKN.out
                      rw [HXX.out] at r9
                      exact exec_load_mid w 24 _ rfl xg (k * 32) rfl (feL X) _ r9 Tryz.underlying24 rfl feInfo
                    try simp only [Act.put, List.setIfInBounds_toArray, List.set_cons_zero, List.set_cons_succ]
                    refine take_load 7 (some 91) (feC X) rfl (by kernel_rfl) (by kernel_rfl) (by kernel_rfl) (fun _ _ _ h => h) rfl rfl 24 _ rfl gw rfl 24 _ (fun w h => WB.chg h (by simp)) Tryz.underlying24 rfl (by first | exact feInfo | kernel_rfl) hHeld ?_
                    try simp only [Act.put, List.setIfInBounds_toArray, List.set_cons_zero, List.set_cons_succ]
                    refine take_val (v := (.bool false)) 8 (some 92) rfl (by kernel_rfl) (by kernel_rfl) (by kernel_rfl) (fun _ _ _ h => h) rfl rfl (fun w hSw => ?_) hHeld ?_
                    · (go_simp; try with_reducible rfl)
                    try simp only [Act.put, List.setIfInBounds_toArray, List.set_cons_zero, List.set_cons_succ]
                    refine take_val (v := (.bool false)) 9 (some 93) rfl (by kernel_rfl) (by kernel_rfl) (by kernel_rfl) (fun _ _ _ h => h) rfl rfl (fun w hSw => ?_) hHeld ?_
                    · (go_simp; try with_reducible rfl)
                    try simp only [Act.put, List.setIfInBounds_toArray, List.set_cons_zero, List.set_cons_succ]
                    refine take_val (v := ?_) 10 (some 94) rfl (by kernel_rfl) (by kernel_rfl) (by kernel_rfl) (fun _ _ _ h => h) rfl rfl (fun w hSw => ?_) hHeld ?_
                    rotate_left
                    · (go_simp; try with_reducible rfl)
                    try simp only [Act.put, List.setIfInBounds_toArray, List.set_cons_zero, List.set_cons_succ]
                    refine take_val (v := ?_) 11 (some 95) rfl (by kernel_rfl) (by kernel_rfl) (by kernel_rfl) (fun _ _ _ h => h) rfl rfl (fun w hSw => ?_) hHeld ?_
                    rotate_left
                    · (go_simp; try with_reducible rfl)
                    try simp only [Act.put, List.setIfInBounds_toArray, List.set_cons_zero, List.set_cons_succ]
                    refine take_val (v := ?_) 12 (some 96) rfl (by kernel_rfl) (by kernel_rfl) (by kernel_rfl) (fun _ _ _ h => h) rfl rfl (fun w hSw => ?_) hHeld ?_
                    rotate_left
                    · (go_simp; try with_reducible rfl)
                    try simp only [Act.put, List.setIfInBounds_toArray, List.set_cons_zero, List.set_cons_succ]
                    refine take_val (v := ?_) 13 (some 97) rfl (by kernel_rfl) (by kernel_rfl) (by kernel_rfl) (fun _ _ _ h => h) rfl rfl (fun w hSw => ?_) hHeld ?_
                    rotate_left
                    · (go_simp; try with_reducible rfl)
                    try simp only [Act.put, List.setIfInBounds_toArray, List.set_cons_zero, List.set_cons_succ]
                    refine take_val (v := (.slice (some ⟨y, 0, none⟩) n n)) 14 (some 98) rfl (by kernel_rfl) (by kernel_rfl) (by kernel_rfl) (fun _ _ _ h => h) rfl rfl (fun w hSw => ?_) hHeld ?_
                    · have c4 := HCY.out w (CV.trans1 hSw)
                      (go_simp; try with_reducible rfl)
                    try simp only [Act.put, List.setIfInBounds_toArray, List.set_cons_zero, List.set_cons_succ]
                    refine take_val (v := (.int .i64 (n : Int))) 15 (some 99) rfl (by kernel_rfl) (by kernel_rfl) (by kernel_rfl) (fun _ _ _ h => h) rfl rfl (fun w hSw => ?_) hHeld ?_
                    · (go_simp; try with_reducible rfl)
                    try simp only [Act.put, List.setIfInBounds_toArray, List.set_cons_zero, List.set_cons_succ]
                    refine take_val (v := (.bool false)) 16 (some 100) rfl (by kernel_rfl) (by kernel_rfl) (by kernel_rfl) (fun _ _ _ h => h) rfl rfl (fun w hSw => ?_) hHeld ?_
                    · (go_simp; try with_reducible rfl)
                    try simp only [Act.put, List.setIfInBounds_toArray, List.set_cons_zero, List.set_cons_succ]
                    refine take_val (v := (.bool false)) 17 (some 101) rfl (by kernel_rfl) (by kernel_rfl) (by kernel_rfl) (fun _ _ _ h => h) rfl rfl (fun w hSw => ?_) hHeld ?_
                    · (go_simp; try with_reducible rfl)
                    try simp only [Act.put, List.setIfInBounds_toArray, List.set_cons_zero, List.set_cons_succ]
                    refine take_no 18 (some 102) rfl (by kernel_rfl) (by kernel_rfl) (by kernel_rfl) (fun _ _ _ h => h) rfl rfl hHeld ?_
                    try simp only [Act.put, List.setIfInBounds_toArray, List.set_cons_zero, List.set_cons_succ]
                    refine take_no 19 (some 103) rfl (by kernel_rfl) (by kernel_rfl) (by kernel_rfl) (fun _ _ _ h => h) rfl rfl hHeld ?_
                    try simp only [Act.put, List.setIfInBounds_toArray, List.set_cons_zero, List.set_cons_succ]
                    refine take_no 20 (some 104) rfl (by kernel_rfl) (by kernel_rfl) (by kernel_rfl) (fun _ _ _ h => h) rfl rfl hHeld ?_
                    try simp only [Act.put, List.setIfInBounds_toArray, List.set_cons_zero, List.set_cons_succ]
                    refine take_no 21 (some 105) rfl (by kernel_rfl) (by kernel_rfl) (by kernel_rfl) (fun _ _ _ h => h) rfl rfl hHeld ?_
                    try simp only [Act.put, List.setIfInBounds_toArray, List.set_cons_zero, List.set_cons_succ]
                    refine take_no 22 (some 106) rfl (by kernel_rfl) (by kernel_rfl) (by kernel_rfl) (fun _ _ _ h => h) rfl rfl hHeld ?_
                    try simp only [Act.put, List.setIfInBounds_toArray, List.set_cons_zero, List.set_cons_succ]
                    refine take_no 23 (some 107) rfl (by kernel_rfl) (by kernel_rfl) (by kernel_rfl) (fun _ _ _ h => h) rfl rfl hHeld ?_
                    try simp only [Act.put, List.setIfInBounds_toArray, List.set_cons_zero, List.set_cons_succ]
                    refine take_no 24 (some 108) rfl (by kernel_rfl) (by kernel_rfl) (by kernel_rfl) (fun _ _ _ h => h) rfl rfl hHeld ?_
                    try simp only [Act.put, List.setIfInBounds_toArray, List.set_cons_zero, List.set_cons_succ]
                    refine take_no 25 (some 109) rfl (by kernel_rfl) (by kernel_rfl) (by kernel_rfl) (fun _ _ _ h => h) rfl rfl hHeld ?_
                    try simp only [Act.put, List.setIfInBounds_toArray, List.set_cons_zero, List.set_cons_succ]
                    refine take_no 26 (some 110) rfl (by kernel_rfl) (by kernel_rfl) (by kernel_rfl) (fun _ _ _ h => h) rfl rfl hHeld ?_
                    try simp only [Act.put, List.setIfInBounds_toArray, List.set_cons_zero, List.set_cons_succ]
                    refine take_val (v := (.bool false)) 27 (some 111) rfl (by kernel_rfl) (by kernel_rfl) (by kernel_rfl) (fun _ _ _ h => h) rfl rfl (fun w hSw => ?_) hHeld ?_
                    · (go_simp; try with_reducible rfl)
                    try simp only [Act.put, List.setIfInBounds_toArray, List.set_cons_zero, List.set_cons_succ]
                    refine take_val (v := (.bool false)) 28 (some 112) rfl (by kernel_rfl) (by kernel_rfl) (by kernel_rfl) (fun _ _ _ h => h) rfl rfl (fun w hSw => ?_) hHeld ?_
                    · (go_simp; try with_reducible rfl)
                    try simp only [Act.put, List.setIfInBounds_toArray, List.set_cons_zero, List.set_cons_succ]
                    refine wpAnyH_done (by kernel_rfl) ?_ _
                    go_wp2_with fail
                    exact ⟨⟨k + 1, HKN.out, rfl, CV.trans1 hHeld⟩, HM6.out⟩
        · have hpi : p < i := by omega
          have hJ : (p : Int) < (i : Int) := by omega
          have e3 : IntKind.i64.wrap ((p : Int) + 1) = (p : Int) + 1 := by have := HK.out; rw [IntKind.wrap_i64]; omega
          have c1 := HC2.out wb C3 p hpi
          obtain ⟨hn0, hn1⟩ := HN.out p hpi
          have RY := (HB1.out p hpi).chg C3 (Off.nil _)
          have HPI : Hid (p < i) := hpi
          have HPM : Hid (p ≤ 140737488355331) := by have := HK.out; show p ≤ _; omega
          have HM3 : Hid (((i : Int) - intOf (.int .i64 ((p : Int) + 1))).toNat < ((i : Int) - intOf (.int .i64 (p : Int))).toNat) := by show ((i : Int) - intOf (.int .i64 ((p : Int) + 1))).toNat < ((i : Int) - intOf (.int .i64 (p : Int))).toNat; simp [intOf] <;> omega
          obtain ⟨y, hy⟩ : ∃ y, o p = y := ⟨_, rfl⟩
          obtain ⟨n, hn⟩ : ∃ n, N p = n := ⟨_, rfl⟩
          rw [hy, hn] at c1 RY
          rw [hn] at hn0 hn1
          have HNP : Hid (N p = n) := hn
          have HN0 : Hid (0 < n) := hn0
          have HN1 : Hid (n ≤ 4398046510976) := hn1
          have HBW : Hid (wi.heap.size ≤ wb.heap.size) := C3.size
          clear hy hn hn0 hn1 hpi h10 hp
          go_wp2_with fail
          go_loopw [8, 9] (fun tg t wr => ∃ (k nk : Nat) (pa : Option Addr) (ca : Nat), n + k = nk ∧ k ≤ 40 ∧ t = .int .i64 (k : Int) ∧ tg = .slice pa nk ca ∧ Gr wr wb.heap.size 24 32 (.slice pa nk ca) n k (mk p) ∧ Chg wb wr []) (fun _ t _ => ((40 : Int) - intOf t).toNat)
          case atStart => exact ⟨0, n, some ⟨y, 0, none⟩, n, rfl, by omega, rfl, rfl, Or.inl ⟨rfl, ⟨_, rfl⟩, RY⟩, Chg.refl _ _⟩
          case round =>
            clear RY c1
            obtain ⟨k, nk, pa, ca, hnk, hk, rfl, rfl, G, C4⟩ := hrel
            by_cases h11 : k = 40
            · subst h11
              have hL : ¬ ((40 : Nat) : Int) < 40 := by omega
              have OX : OwnR wr wi.heap.size 24 32 (.slice pa nk ca) nk (mk p) := by
                rcases G with ⟨h0, _⟩ | h
                · omega
                · rw [hnk] at h; exact ⟨ownsRow_base h.1 HBW.out, h.2⟩
              have HNK : Hid (N p + 40 = nk) := by show N p + 40 = nk; rw [HNP.out]; exact hnk
              obtain ⟨inf, hinf, hz, hs1, hs2⟩ := listRowS
              have A0 := Blk.new wr #[.slice pa nk ca] 29
              have HNW : Hid (∀ j u, ([.slice pa nk ca] : List Value)[j]? = some u → (wr.alloc (.cells #[.slice pa nk ca] 29)).cell? ((⟨wr.heap.size, 0, none⟩ : Addr).add j) = some u) := by
                intro j u hj
                refine add_cell ?_
                rw [Nat.zero_add, A0.cell]
                simpa using hj
              have OL4 := ownsRow_chg OL C4 (by simp)
              have HLA : Hid ((wr.alloc (.cells #[.slice pa nk ca] 29)).ownsRow wi.heap.size 29 1 u6 p us) := OL4.alloc _
              have H63 : Hid (p + 1 ≤ maxLen) := by have := HK.out; have := HPI.out; show p + 1 ≤ maxLen; simp only [maxLen]; omega
              have HBY : Hid ((p + 1) * 24 ≤ 140737488355328) := by have := HK.out; have := HPI.out; show (p + 1) * 24 ≤ 140737488355328; omega
              have HBA : Hid (wi.heap.size ≤ (wr.alloc (.cells #[.slice pa nk ca] 29)).heap.size) := by have := C4.size; have := HBW.out; show wi.heap.size ≤ _; simp; omega
              have HON : Hid (∀ u ∈ ([.slice pa nk ca] : List Value), u.oneCell' = true) := by show ∀ u ∈ ([.slice pa nk ca] : List Value), u.oneCell' = true; simp [Value.oneCell']
              have wasz : (wr.alloc (.cells #[.slice pa nk ca] 29)).heap.size = wr.heap.size + 1 := by simp
              have CA := (C4.alloc (.cells #[.slice pa nk ca] 29))
              have HOB : Hid (∀ x, x ∈ ob u6 → wi.heap.size ≤ x) := fun x hx => (OL.lt x (by unfold ob at hx; simpa using hx)).1
              have HTF : Hid (∀ W v m Fm, Chg wr W [] → OwnR W wi.heap.size 24 32 v m Fm → ∀ q ∈ ob v, ¬ q ∈ ob u6) := fun W v m Fm hW hv q hq hq2 => by
                obtain ⟨C1, hC1⟩ := ownR_blk hv hq
                obtain ⟨C2, hC2⟩ := ownsRow_blk OL4 hq2
                exact hC1.ne (hC2.chg hW (by simp)) (by decide) rfl
              clear G A0 hk hnk
              go_wp2_with (with_reducible refine wpList_append_lies _ ?_ (.tmp 62) (.tmp 64) 47 ?_ wi.heap.size 29 inf (.slice none 0 0) 1 24 Tryz.underlying47 hinf hz hs1 hs2 ?_ ?_ u6 p us ?_ HLA.out ⟨wr.heap.size, 0, none⟩ 1 1 [.slice pa nk ca] ?_ ?_ HNW.out HON.out ?_ H63.out HBY.out HBA.out (wr.heap.size + 1) ?_ ?_
                           · rfl
                           · rfl
                           · rfl
                           · decide
                           · rfl
                           · rfl
                           · rfl
                           · decide
                           · exact wasz
                           intro lg5 lc5 w5 O5 G5 hat hlt
                           replace G5 := Chg.grown G5)
              have CW := (C3.trans1 CA).trans G5 (fun x hx => Or.inr (HOB.out x hx))
              refine ⟨⟨p + 1, us ++ [.slice pa nk ca], HPI.out, rfl, O5, fun j hj => ?_, CW⟩, HM3.out⟩
              have hK : Chg wr (wr.alloc (.cells #[.slice pa nk ca] 29)) [] := (Chg.refl wr []).alloc _
              have hul : us.length = p := by have q := OL.1; simpa using q
              by_cases hjp : j = p
              · subst hjp
                refine ⟨.slice pa nk ca, by rw [List.getElem?_append_right (by omega), hul]; simp, ?_⟩
                rw [HNK.out]
                have OX1 := OX.chg hK (by simp)
                exact OX1.chg G5 (HTF.out _ _ _ _ hK OX1)
              · obtain ⟨x, hx1, hx2⟩ := HX j (by omega)
                refine ⟨x, by rw [List.getElem?_append_left (by omega)]; exact hx1, ?_⟩
                have hx3 := hx2.chg CA (by simp)
                exact hx3.chg G5 (HTF.out _ _ _ _ hK hx3)
            · have hk40 : k < 40 := by omega
              have hL : (k : Int) < 40 := by omega
              have e4 : IntKind.i64.wrap ((k : Int) + 1) = (k : Int) + 1 := by rw [IntKind.wrap_i64]; omega
              have HK4 : Hid (k + 1 ≤ 40) := hk40
              have HNK : Hid (n + k = nk) := hnk
              have HNM : Hid (nk ≤ 140737488355331) := by have := HN1.out; show nk ≤ _; omega
              have HM4 : Hid (((40 : Int) - intOf (.int .i64 ((k : Int) + 1))).toNat < ((40 : Int) - intOf (.int .i64 (k : Int))).toNat) := by show ((40 : Int) - intOf (.int .i64 ((k : Int) + 1))).toNat < ((40 : Int) - intOf (.int .i64 (k : Int))).toNat; simp [intOf] <;> omega
              have HBY : Hid ((n + k + 1) * 32 ≤ 140737488355328) := by have := HN1.out; show (n + k + 1) * 32 ≤ 140737488355328; omega
              have H63 : Hid (n + k + 1 ≤ 9223372036854775807) := by have := HN1.out; show n + k + 1 ≤ 9223372036854775807; omega
              obtain ⟨inf, hinf, hz, hs1, hs2⟩ := scRow
              clear hk40 h11 hk hnk
              go_wp2_with fail
              refine (markScalars_s p nk HPM.out HNM.out _).mono ?_
              rintro e w5 ⟨rfl, q⟩
              have K5 : Chg wr (w5.alloc (.cells (feC ((mkS p nk : Nat) : Int)) 24)) [] := q.alloc _
              have G6 := G.chg K5
              have RX : Rl (w5.alloc (.cells (feC ((mkS p nk : Nat) : Int)) 24)) 32 (.slice (some ⟨w5.heap.size, 0, none⟩) 1 1) 1 (fun _ => mk p (n + k)) := by rw [HNK.out]; exact rl_one (Blk.new w5 _ _)
              have C7 := C4.trans1 K5
              have HBS : Hid (wb.heap.size ≤ (w5.alloc (.cells (feC ((mkS p nk : Nat) : Int)) 24)).heap.size) := C7.size
              clear G q
              go_wp2_with (first
                | (with_reducible refine build_fe ?_ (.tmp 59) ?_ ((mkS p nk : Nat) : Int) ?_ ?_
                   · rfl
                   · rfl
                   · rfl)
                | (with_reducible refine append_g ?_ (.tmp 55) (.tmp 60) 29 ?_ 24 inf (.agg z32) 32 32 Tryz.underlying29 hinf hz hs1 hs2 ?_ ?_ wb.heap.size (.slice pa nk ca) (.slice (some ⟨w5.heap.size, 0, none⟩) 1 1) n k HN0.out (mk p) (mk_okr p) ?_ ?_ G6 RX HBY.out H63.out HBS.out ?_
                   · rfl
                   · rfl
                   · rfl
                   · decide
                   · rfl
                   · rfl
                   intro g5 c5 w6 l6 O6 C6 hl6))
              exact ⟨⟨k + 1, n + k + 1, some ⟨g5, 0, none⟩, c5, rfl, HK4.out, rfl, rfl, Or.inr O6, C7.trans C6 (fun x hx => Or.inr (hl6 x hx))⟩, HM4.out⟩
    · have hiK : i < K := by omega
      have hI : (i : Int) < (K : Int) := by omega
      have e1 : IntKind.i64.wrap ((i : Int) + 1) = (i : Int) + 1 := by have := HK.out; rw [IntKind.wrap_i64]; omega
      obtain ⟨hn0, hn1⟩ := HN.out i hiK
      have c1 := HC.out wi C i hiK
      have BY0 := AB i hiK
      rw [mA_self] at BY0
      have RF := HR.out i hiK
      have HOI : Hid (∀ j, j < K → ¬ j = i → ¬ o j = o i) := fun j hj hne => HD.out j i hj hiK hne
      have HMY : Hid (o i ∈ os o K) := os_mem o hiK
      have HIK : Hid (i < K) := hiK
      obtain ⟨y, hy⟩ : ∃ y, o i = y := ⟨_, rfl⟩
      obtain ⟨n, hn⟩ : ∃ n, N i = n := ⟨_, rfl⟩
      rw [hy] at c1 BY0 HOI HMY
      rw [hn] at c1 BY0 RF hn0 hn1
      have HY : Hid (o i = y) := hy
      have HNN : Hid (N i = n) := hn
      have HRF : Hid (Rok 32 n (F i)) := RF
      have HN1 : Hid (n ≤ 4398046510976) := hn1
      have HIM : Hid (i ≤ 140737488355331) := by have := HK.out; show i ≤ _; omega
      have HM1 : Hid (((K : Int) - intOf (.int .i64 ((i : Int) + 1))).toNat < ((K : Int) - intOf (.int .i64 (i : Int))).toNat) := by show ((K : Int) - intOf (.int .i64 ((i : Int) + 1))).toNat < ((K : Int) - intOf (.int .i64 (i : Int))).toNat; simp [intOf] <;> omega
      have CLL : Hid (∀ w', Chg wi w' [y] → w'.cell? ⟨lg, i, none⟩ = some (.slice (some ⟨y, 0, none⟩) n n)) := fun w' h => by have q := HC.out w' (C.trans h (fun x hx => Or.inl (by simp at hx; rw [hx]; exact HMY.out))) i HIK.out; rw [HY.out, HNN.out] at q; exact q
      clear hy hn RF hn0 hn1 hiK h8 hi
      go_wp2_with fail
      go_loopw [5] (fun t wr => ∃ k : Nat, k ≤ n ∧ t = .int .i64 (k : Int) ∧ Blk wr y (rL 32 n (mB F i k)).toArray 24 ∧ Chg wi wr [y]) (fun t _ => ((n : Int) - intOf t).toNat)
      case atStart => exact ⟨0, Nat.zero_le _, rfl, by rw [mB_0]; exact BY0, Chg.refl _ _⟩
      case round =>
        clear c1 BY0
        obtain ⟨k, hk, rfl, BY, C2⟩ := hrel
        have CL : Hid (∀ w', Chg wi w' [y] → w'.cell? ⟨lg, i, none⟩ = some (.slice (some ⟨y, 0, none⟩) n n)) := CLL.out
        have c1 := CL.out wr C2
        by_cases h9 : k = n
        · subst h9
          have hJ : ¬ (k : Int) < (k : Int) := by omega
          go_wp2_with fail
          refine ⟨⟨i + 1, by have := HIK.out; omega, rfl, fun j hj => ?_, C.trans C2 (fun x hx => Or.inl (by simp at hx; rw [hx]; exact HMY.out))⟩, HM1.out⟩
          by_cases hji : j = i
          · subst hji
            rw [HY.out, HNN.out, ← mB_end]
            exact BY
          · rw [mA_step F i j hji]
            exact (AB j hj).chg C2 (by simp; exact HOI.out j hj hji)
        · have hkn : k < n := by omega
          have hJ : (k : Int) < (n : Int) := by omega
          have e2 : IntKind.i64.wrap ((k : Int) + 1) = (k : Int) + 1 := by have := HN1.out; rw [IntKind.wrap_i64]; omega
          have HKN : Hid (k < n) := hkn
          have HKM : Hid (k ≤ 140737488355331) := by have := HN1.out; show k ≤ _; omega
          have HO : Hid (Rok 32 n (mB F i k)) := mB_ok F i k n HRF.out
          have HUP : Hid (upR (mB F i k) k (feL ((mkS i k : Nat) : Int)) = mB F i (k + 1)) := mB_up F i k
          have HM2 : Hid (((n : Int) - intOf (.int .i64 ((k : Int) + 1))).toNat < ((n : Int) - intOf (.int .i64 (k : Int))).toNat) := by show ((n : Int) - intOf (.int .i64 ((k : Int) + 1))).toNat < ((n : Int) - intOf (.int .i64 (k : Int))).toNat; simp [intOf] <;> omega
          obtain ⟨Q0, hQ0⟩ : ∃ Q, mB F i k = Q := ⟨_, rfl⟩
          rw [hQ0] at BY HO HUP
          clear hQ0 hkn h9 hk AB
          go_wp2_with fail
          refine wp_region_held_drew (S := fun w' => Chg wi w' [y]) (by kernel_rfl) ((C2).drew) (fun hHeld => ?_)
          replace BY := BY.drew
          refine take_val (v := ?_) 0 (some 32) rfl (by kernel_rfl) (by kernel_rfl) (by kernel_rfl) (fun _ _ _ h => h) rfl rfl (fun w hSw => ?_) hHeld ?_
          rotate_left
          · (go_simp; try with_reducible rfl)
          try simp only [Act.put, List.setIfInBounds_toArray, List.set_cons_zero, List.set_cons_succ]
          refine take_val (v := ?_) 1 (some 33) rfl (by kernel_rfl) (by kernel_rfl) (by kernel_rfl) (fun _ _ _ h => h) rfl rfl (fun w hSw => ?_) hHeld ?_
          rotate_left
          · (go_simp; try with_reducible rfl)
          try simp only [Act.put, List.setIfInBounds_toArray, List.set_cons_zero, List.set_cons_succ]
          refine take_val (v := ?_) 2 (some 34) rfl (by kernel_rfl) (by kernel_rfl) (by kernel_rfl) (fun _ _ _ h => h) rfl rfl (fun w hSw => ?_) hHeld ?_
          rotate_left
          · (go_simp; try with_reducible rfl)
          try simp only [Act.put, List.setIfInBounds_toArray, List.set_cons_zero, List.set_cons_succ]
          refine take_val (v := (.slice (some ⟨y, 0, none⟩) n n)) 3 (some 35) rfl (by kernel_rfl) (by kernel_rfl) (by kernel_rfl) (fun _ _ _ h => h) rfl rfl (fun w hSw => ?_) hHeld ?_
          · have c4 := CL.out w hSw
            (go_simp; try with_reducible rfl)
          try simp only [Act.put, List.setIfInBounds_toArray, List.set_cons_zero, List.set_cons_succ]
          refine take_val (v := ?_) 4 (some 36) rfl (by kernel_rfl) (by kernel_rfl) (by kernel_rfl) (fun _ _ _ h => h) rfl rfl (fun w hSw => ?_) hHeld ?_
          rotate_left
          · (go_simp; try with_reducible rfl)
          try simp only [Act.put, List.setIfInBounds_toArray, List.set_cons_zero, List.set_cons_succ]
          refine take_val (v := ?_) 5 (some 37) rfl (by kernel_rfl) (by kernel_rfl) (by kernel_rfl) (fun _ _ _ h => h) rfl rfl (fun w hSw => ?_) hHeld ?_
          rotate_left
          · (go_simp; try with_reducible rfl)
          try simp only [Act.put, List.setIfInBounds_toArray, List.set_cons_zero, List.set_cons_succ]
          refine take_val (v := ?_) 6 (some 38) rfl (by kernel_rfl) (by kernel_rfl) (by kernel_rfl) (fun _ _ _ h => h) rfl rfl (fun w hSw => ?_) hHeld ?_
          rotate_left
          · (go_simp; try with_reducible rfl)
          try simp only [Act.put, List.setIfInBounds_toArray, List.set_cons_zero, List.set_cons_succ]
          refine wpAnyH_ready (rs := [7]) (by kernel_rfl) (by simp) ?_
          refine AllReadyH.cons (o := _) rfl (fun K hK => ?_) ?_
          ·
            go_simp
            refine (markScalars_s i k HIM.out HKM.out _).mono ?_
            rintro e z7 ⟨rfl, q⟩
            replace BY := BY.chg q (by simp)
            go_wp2_with fail
            refine hK.out _ _ (hHeld.trans1 q.wide) (fun hHeld => ?_)
            clear hK K
            try simp only [Act.put, List.setIfInBounds_toArray, List.set_cons_zero, List.set_cons_succ]
            clear q
            refine take_val (v := ?_) 8 (some 40) rfl (by kernel_rfl) (by kernel_rfl) (by kernel_rfl) (fun _ _ _ h => h) rfl rfl (fun w hSw => ?_) hHeld ?_
            rotate_left
            · (go_simp; try with_reducible rfl)
            try simp only [Act.put, List.setIfInBounds_toArray, List.set_cons_zero, List.set_cons_succ]
            refine wpAnyH_ready (rs := [9]) (by kernel_rfl) (by simp) ?_
            refine AllReadyH.cons (o := _) rfl (fun K hK => ?_) ?_
            ·
              rw [if_pos (by rfl)]
              refine wp_store_rw 24 _ _ rfl y 32 n k Q0 (feL ((mkS i k : Nat) : Int)) 24 rfl rfl BY HO.out HKN.out (feL_ok _).1 (feL_ok _).2 feInfo ?_
              intro w2 b2 k2
              refine hK.out _ _ (hHeld.trans1 k2) (fun hHeld => ?_)
              clear hK K
              try simp only [Act.put, List.setIfInBounds_toArray, List.set_cons_zero, List.set_cons_succ]
              refine wpAnyH_done (by kernel_rfl) ?_ _
              go_wp2_with fail
              exact ⟨⟨k + 1, HKN.out, rfl, by rw [← HUP.out]; exact b2, hHeld⟩, HM2.out⟩
            exact AllReadyH.nil
          exact AllReadyH.nil
end Go.Proofs.YtledggdoehnlcaaGreat
