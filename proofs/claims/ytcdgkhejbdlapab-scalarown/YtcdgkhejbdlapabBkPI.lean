/- Book.apartInts over lists that are full and lie apart. -/
import Derived.Test.YtcdgkhejbdlapabBkPS
import Derived.Test.YtcdgkhejbdlapabBkI
set_option linter.unusedVariables false
set_option linter.unusedSimpArgs false
set_option linter.unnecessarySimpa false
namespace Go.Proofs.Ytcdgkhejbdlapab
open Go.RowKit N

/-- The mark of list i at place k. -/
def mI (i k : Nat) : Int := -1 - 100003 * ((i : Int) + 1) - 7 * (k : Int)
def mkI (j r : Nat) : List Value := [.int .i64 (mI j r)]
theorem mkI_ok (j : Nat) : ∀ r, (mkI j r).length = 1 ∧ ∀ v ∈ mkI j r, v.oneCell' = true := fun _ => ⟨rfl, by simp [mkI, Value.oneCell']⟩
set_option maxHeartbeats 4000000 in
set_option maxRecDepth 100000 in
theorem markInts_s (i k : Nat) (hi : i ≤ 1000) (hk : k ≤ 140737488355331) (w : World) : Calls Try.prog 80 #[.int .i64 (i : Int), .int .i64 (k : Int)] w fun x w' => x = .returned (.int .i64 (mI i k)) ∧ Chg w w' [] := by
  have e1 : wrap64 ((i : Int) + 1) = (i : Int) + 1 := by unfold wrap64; omega
  have e2 : wrap64 (100003 * ((i : Int) + 1)) = 100003 * ((i : Int) + 1) := by unfold wrap64; omega
  have e3 : wrap64 (-1 - 100003 * ((i : Int) + 1)) = -1 - 100003 * ((i : Int) + 1) := by unfold wrap64; omega
  have e4 : wrap64 (7 * (k : Int)) = 7 * (k : Int) := by unfold wrap64; omega
  have e5 : wrap64 (-1 - 100003 * ((i : Int) + 1) - 7 * (k : Int)) = mI i k := by unfold wrap64 mI; omega
  have f1 : IntKind.i64.wrap ((i : Int) + 1) = (i : Int) + 1 := by rw [IntKind.wrap_i64]; omega
  clear hi hk
  go_enter Try.func80, Try.ntmps80
  go_wp2_with fail
  go_ret
  exact ⟨by show Ending.returned (Value.int IntKind.i64 (wrap64 (-1 - 100003 * ((i : Int) + 1) - 7 * (k : Int)))) = _; rw [e5], Chg.refl _ _⟩
theorem rl_oneI {w : World} {b : Nat} {X : Int} {T : TypeId} (h : Blk w b #[.int .i64 X] T) : Rl w 1 (.slice (some ⟨b, 0, none⟩) 1 1) 1 (fun _ => [.int .i64 X]) := by
  refine ⟨fun _ _ => ⟨rfl, by simp [Value.oneCell']⟩, Or.inr ⟨b, 0, 1, rfl, Nat.le_refl _, by decide, h.lt, fun j hj => ?_⟩⟩
  obtain rfl : j = 0 := by omega
  intro q u hu
  rw [h.cell]
  simpa using hu
theorem iC_rl {w : World} {b n j : Nat} {T : TypeId} (h : Blk w b (iC n (mI j)) T) (hn : n ≤ 9223372036854775807) : Rl w 1 (.slice (some ⟨b, 0, none⟩) n n) n (mkI j) := by
  refine ⟨fun r _ => mkI_ok j r, Or.inr ⟨b, 0, n, rfl, Nat.le_refl _, hn, h.lt, fun r hr => ?_⟩⟩
  intro q u hu
  have hq : q = 0 := by
    have := (List.getElem?_eq_some_iff.1 hu).1
    simp [mkI] at this
    exact this
  subst hq
  rw [h.cell, Nat.zero_add, Nat.mul_one, Nat.add_zero, iC_get n _ r hr]
  simpa [mkI] using hu
def nA (F : Nat → Nat → Int) (i j : Nat) : Nat → Int := fun r => if j < i then mI j r else F j r
def nB (F : Nat → Nat → Int) (i k : Nat) : Nat → Int := fun r => if r < k then mI i r else F i r
theorem nA_0 (F : Nat → Nat → Int) (j : Nat) : nA F 0 j = F j := by funext r; unfold nA; rw [if_neg (by omega)]
theorem nA_all (F : Nat → Nat → Int) (K j : Nat) (h : j < K) : nA F K j = mI j := by funext r; unfold nA; rw [if_pos h]
theorem nA_self (F : Nat → Nat → Int) (i : Nat) : nA F i i = F i := by funext r; unfold nA; rw [if_neg (by omega)]
theorem nA_step (F : Nat → Nat → Int) (i j : Nat) (h : ¬ j = i) : nA F (i + 1) j = nA F i j := by
  funext r
  unfold nA
  by_cases h1 : j < i
  · rw [if_pos h1, if_pos (by omega)]
  · rw [if_neg h1, if_neg (by omega)]
theorem nB_0 (F : Nat → Nat → Int) (i : Nat) : nB F i 0 = F i := by funext r; unfold nB; rw [if_neg (by omega)]
theorem nB_up (F : Nat → Nat → Int) (i k n : Nat) : (iC n (nB F i k)).setIfInBounds k (.int .i64 (mI i k)) = iC n (nB F i (k + 1)) := by
  rw [iC_set]
  refine iC_eq fun r _ => ?_
  unfold nB
  by_cases h : r = k
  · subst h; rw [if_pos rfl, if_pos (by omega)]
  · rw [if_neg h]
    by_cases h1 : r < k
    · rw [if_pos h1, if_pos (by omega)]
    · rw [if_neg h1, if_neg (by omega)]
theorem nB_end (F : Nat → Nat → Int) (i n : Nat) : iC n (nB F i n) = iC n (nA F (i + 1) i) := iC_eq fun r hr => by unfold nB nA; rw [if_pos hr, if_pos (by omega)]
set_option maxHeartbeats 16000000 in
set_option maxRecDepth 100000 in
theorem apartInts_s (gb lg lc K : Nat) (B : Nat → Value) (T : TypeId) (o N : Nat → Nat) (F : Nat → Nat → Int) (hK0 : K ≤ 1000) (hN : ∀ j, j < K → 0 < N j ∧ N j ≤ 4398046510976) (hB : B 1 = .slice (some ⟨lg, 0, none⟩) K lc) (hlc : K ≤ lc) (w : World) (hg : Blk w gb (bkC B) T)
    (hc : ∀ j, j < K → w.cell? ⟨lg, j, none⟩ = some (.slice (some ⟨o j, 0, none⟩) (N j) (N j))) (hlg : lg < w.heap.size) (hlo : ∀ j, j < K → ¬ lg = o j) (hAB : ∀ j, j < K → Blk w (o j) (iC (N j) (F j)) 3) (hd : ∀ i j, i < K → j < K → ¬ i = j → ¬ o i = o j) :
    Calls Try.prog 50 #[.pointer (some ⟨gb, 0, none⟩)] w fun e w' => e = .returned (.bool true) ∧ Chg w w' (os o K) := by
  have c0 := (hg.cell 1).trans (bkC_get B 1 (by decide))
  rw [hB] at c0
  have HK : Hid (K ≤ 1000) := hK0
  have HN : Hid (∀ j, j < K → 0 < N j ∧ N j ≤ 4398046510976) := hN
  have HAB : Hid (∀ j, j < K → Blk w (o j) (iC (N j) (F j)) 3) := hAB
  have HD : Hid (∀ i j, i < K → j < K → ¬ i = j → ¬ o i = o j) := hd
  have HLO : Hid (¬ lg ∈ os o K) := fun hm => by obtain ⟨j, hj, he⟩ := mem_os hm; exact hlo j hj he.symm
  have HC : Hid (∀ w', Chg w w' (os o K) → ∀ j, j < K → w'.cell? ⟨lg, j, none⟩ = some (.slice (some ⟨o j, 0, none⟩) (N j) (N j))) := fun w' h j hj => cell_l (hc j hj) h HLO.out
  have HLL : Hid (K ≤ lc) := hlc
  clear hB hK0 hN hg hc hlg hlo hAB hd hlc
  go_enter Try.func50, Try.ntmps50
  go_wp2_with fail
  go_loopw [4] (fun t wr => ∃ i : Nat, i ≤ K ∧ t = .int .i64 (i : Int) ∧ (∀ j, j < K → Blk wr (o j) (iC (N j) (nA F i j)) 3) ∧ Chg w wr (os o K)) (fun t _ => ((K : Int) - intOf t).toNat)
  case atStart => exact ⟨0, Nat.zero_le _, rfl, fun j hj => by rw [nA_0]; exact HAB.out j hj, Chg.refl _ _⟩
  case round =>
    clear c0
    obtain ⟨i, hi, rfl, AB, C⟩ := hrel
    obtain ⟨wi, hwi⟩ : ∃ x, x = wr := ⟨_, rfl⟩
    subst hwi
    by_cases h8 : i = K
    · subst h8
      have hI : ¬ (i : Int) < (i : Int) := by omega
      have HA : Hid (∀ j, j < i → Blk wi (o j) (iC (N j) (mI j)) 3) := fun j hj => by have q := AB j hj; rw [nA_all F i j hj] at q; exact q
      clear AB hi
      go_wp2_with fail
      have HB1 : Hid (∀ j, j < i → Rl wi 1 (.slice (some ⟨o j, 0, none⟩) (N j) (N j)) (N j) (mkI j)) := fun j hj => iC_rl (HA.out j hj) (by have := (HN.out j hj).2; omega)
      have HC2 : Hid (∀ w', Chg wi w' [] → ∀ j, j < i → w'.cell? ⟨lg, j, none⟩ = some (.slice (some ⟨o j, 0, none⟩) (N j) (N j))) := fun w' h j hj => HC.out w' (C.trans1 h.wide) j hj
      have HCC : Hid (∀ w', Chg wi w' [] → Chg w w' (os o i)) := fun w' h => C.trans1 h.wide
      clear C HC HD HLO HAB HA
      go_loopw [6, 7] (fun tg t wr => ∃ (p : Nat) (us : List Value), p ≤ i ∧ t = .int .i64 (p : Int) ∧ wr.ownsRow wi.heap.size 46 1 tg p us ∧ (∀ j, j < p → ∃ x, us[j]? = some x ∧ OwnR wr wi.heap.size 3 1 x (N j + 40) (mkI j)) ∧ Chg wi wr []) (fun _ t _ => ((i : Int) - intOf t).toNat)
      case atStart => exact ⟨0, [], Nat.zero_le _, rfl, World.ownsRow_nil _ _ _ _, fun j hj => absurd hj (by omega), Chg.refl _ _⟩
      case round =>
        obtain ⟨p, us, hp, rfl, OL, HX, C3⟩ := hrel
        obtain ⟨wb, hwb⟩ : ∃ x, x = wr := ⟨_, rfl⟩
        subst hwb
        by_cases h10 : p = i
        · subst h10
          have hJ : ¬ (p : Int) < (p : Int) := by omega
          clear hp
          go_wp2_with fail
          go_loopw [10] (fun t wr => ∃ q : Nat, q ≤ p ∧ t = .int .i64 (q : Int) ∧ Chg wb wr []) (fun t _ => ((p : Int) - intOf t).toNat)
          case atStart => exact ⟨0, Nat.zero_le _, rfl, Chg.refl _ _⟩
          case round =>
            obtain ⟨q, hq, rfl, C5⟩ := hrel
            obtain ⟨wc, hwc⟩ : ∃ x, x = wr := ⟨_, rfl⟩
            subst hwc
            by_cases h12 : q = p
            · subst h12
              have hL : ¬ (q : Int) < (q : Int) := by omega
              have CE := HCC.out _ (C3.trans1 C5)
              go_wp2_with fail
              go_ret
              exact ⟨rfl, CE⟩
            · have hqp : q < p := by omega
              have hL : (q : Int) < (p : Int) := by omega
              have e5 : IntKind.i64.wrap ((q : Int) + 1) = (q : Int) + 1 := by have := HK.out; rw [IntKind.wrap_i64]; omega
              obtain ⟨hn0, hn1⟩ := HN.out q hqp
              obtain ⟨x, hx1, hx2⟩ := HX q hqp
              obtain ⟨gg, gc, hgv, _, _⟩ := OL.form (by omega)
              subst hgv
              have cx := ownsRow_cell OL hx1
              obtain ⟨xg, xc, rfl, _, _⟩ := hx2.1.form (by omega)
              have RL := (HB1.out q hqp).chg C3 (Off.nil _)
              have HCY : Hid (∀ W, Chg wb W [] → W.cell? ⟨lg, q, none⟩ = some (.slice (some ⟨o q, 0, none⟩) (N q) (N q))) := fun W h => HC2.out W (C3.trans1 h) q hqp
              obtain ⟨y, hy⟩ : ∃ y, o q = y := ⟨_, rfl⟩
              obtain ⟨n, hn⟩ : ∃ n, N q = n := ⟨_, rfl⟩
              rw [hy, hn] at RL HCY
              rw [hn] at hx2 cx hn0 hn1
              obtain ⟨nk, hnk⟩ : ∃ m, n + 40 = m := ⟨_, rfl⟩
              rw [hnk] at hx2 cx
              have HXR : Hid (∀ W, Chg wb W [] → ∀ k, k < nk → W.cell? ⟨xg, k, none⟩ = some (.int .i64 (mI q k))) := fun W hW k hk => by
                have r := hx2.rl.chg hW (Off.nil _)
                rcases r.2 with ⟨h0, _⟩ | ⟨g', o', cap', he, _, _, _, h4⟩
                · omega
                · simp at he
                  obtain ⟨⟨rfl, rfl⟩, rfl⟩ := he
                  have q1 := h4 k hk
                  rw [Nat.zero_add, Nat.mul_one] at q1
                  exact q1 0 _ rfl
              have HLR : Hid (∀ W, Chg wb W [] → ∀ k, k < n → W.cell? ⟨y, k, none⟩ = some (.int .i64 (mI q k))) := fun W hW k hk => by
                have r := RL.chg hW (Off.nil _)
                rcases r.2 with ⟨h0, _⟩ | ⟨g', o', cap', he, _, _, _, h4⟩
                · omega
                · simp at he
                  obtain ⟨⟨rfl, rfl⟩, rfl⟩ := he
                  have q1 := h4 k hk
                  rw [Nat.zero_add, Nat.mul_one] at q1
                  exact q1 0 _ rfl
              have HCX : Hid (∀ W, Chg wb W [] → W.cell? ⟨gg, q, none⟩ = some (.slice (some ⟨xg, 0, none⟩) nk xc)) := fun W h => cell_l cx h (by simp)
              have HQP : Hid (q < p) := hqp
              have HNK : Hid (nk ≤ 4398046511016) := by show nk ≤ _; omega
              have HQM : Hid (q ≤ 1000) := by have := HK.out; show q ≤ _; omega
              have HM5 : Hid (((p : Int) - intOf (.int .i64 ((q : Int) + 1))).toNat < ((p : Int) - intOf (.int .i64 (q : Int))).toNat) := by show ((p : Int) - intOf (.int .i64 ((q : Int) + 1))).toNat < ((p : Int) - intOf (.int .i64 (q : Int))).toNat; simp [intOf] <;> omega
              have c1 := HCX.out wc C5
              clear RL cx hx1 hx2 HX OL hy hn hnk hn0 hn1 hqp h12 hq
              go_wp2_with fail
              go_loopw [11] (fun t wr => ∃ k : Nat, k ≤ nk ∧ t = .int .i64 (k : Int) ∧ Chg wb wr []) (fun t _ => ((nk : Int) - intOf t).toNat)
              case atStart => exact ⟨0, Nat.zero_le _, rfl, C5⟩
              case round =>
                clear c1
                obtain ⟨k, hk, rfl, C6⟩ := hrel
                have c1 := HCX.out wr C6
                by_cases h13 : k = nk
                · subst h13
                  have hJ2 : ¬ (k : Int) < (k : Int) := by omega
                  go_wp2_with fail
                  exact ⟨⟨q + 1, HQP.out, rfl, C6⟩, HM5.out⟩
                · have hkn : k < nk := by omega
                  have hJ2 : (k : Int) < (nk : Int) := by omega
                  have e6 : IntKind.i64.wrap ((k : Int) + 1) = (k : Int) + 1 := by have := HNK.out; rw [IntKind.wrap_i64]; omega
                  have HKN : Hid (k < nk) := hkn
                  have HKM : Hid (k ≤ 140737488355331) := by have := HNK.out; show k ≤ _; omega
                  have HM6 : Hid (((nk : Int) - intOf (.int .i64 ((k : Int) + 1))).toNat < ((nk : Int) - intOf (.int .i64 (k : Int))).toNat) := by show ((nk : Int) - intOf (.int .i64 ((k : Int) + 1))).toNat < ((nk : Int) - intOf (.int .i64 (k : Int))).toNat; simp [intOf] <;> omega
                  clear h13 hk hkn
                  go_wp2_with fail
                  refine (markInts_s q k HQM.out HKM.out _).mono ?_
                  rintro e w5 ⟨rfl, q5⟩
                  have CV := C6.trans1 q5
                  have cx := HXR.out w5 CV k HKN.out
                  have cg := HCX.out w5 CV
                  have cl := HCY.out w5 CV
                  have HLW : Hid (∀ X : Int, mI q k = X → k < n → w5.cell? ⟨y, k, none⟩ = some (.int .i64 X)) := fun X hX hk => by rw [← hX]; exact HLR.out w5 CV k hk
                  obtain ⟨X, hX⟩ : ∃ X : Int, mI q k = X := ⟨_, rfl⟩
                  rw [hX] at cx ⊢
                  clear c1 q5
                  by_cases hkn : k < n
                  · have hO : (k : Int) < (n : Int) := by omega
                    have cy := HLW.out X hX hkn
                    clear hkn hX
                    go_wp2_with fail
                    exact ⟨⟨k + 1, HKN.out, rfl, CV⟩, HM6.out⟩
                  · have hO : ¬ (k : Int) < (n : Int) := by omega
                    clear hkn hX
                    go_wp2_with fail
                    exact ⟨⟨k + 1, HKN.out, rfl, CV⟩, HM6.out⟩
        · have hpi : p < i := by omega
          have hJ : (p : Int) < (i : Int) := by omega
          have e3 : IntKind.i64.wrap ((p : Int) + 1) = (p : Int) + 1 := by have := HK.out; rw [IntKind.wrap_i64]; omega
          have c1 := HC2.out wb C3 p hpi
          obtain ⟨hn0, hn1⟩ := HN.out p hpi
          have RY := (HB1.out p hpi).chg C3 (Off.nil _)
          have HPI : Hid (p < i) := hpi
          have HPM : Hid (p ≤ 1000) := by have := HK.out; show p ≤ _; omega
          have HM3 : Hid (((i : Int) - intOf (.int .i64 ((p : Int) + 1))).toNat < ((i : Int) - intOf (.int .i64 (p : Int))).toNat) := by show ((i : Int) - intOf (.int .i64 ((p : Int) + 1))).toNat < ((i : Int) - intOf (.int .i64 (p : Int))).toNat; simp [intOf] <;> omega
          obtain ⟨y, hy⟩ : ∃ y, o p = y := ⟨_, rfl⟩
          obtain ⟨n, hn⟩ : ∃ n, N p = n := ⟨_, rfl⟩
          rw [hy, hn] at c1 RY
          rw [hn] at hn0 hn1
          have HNP : Hid (N p = n) := hn
          have HN0 : Hid (0 < n) := hn0
          have HN1 : Hid (n ≤ 4398046510976) := hn1
          have HBW : Hid (wi.heap.size ≤ wb.heap.size) := C3.size
          clear hy hn hn0 hn1 hpi h10 hp
          go_wp2_with fail
          go_loopw [8, 9] (fun tg t wr => ∃ (k nk : Nat) (pa : Option Addr) (ca : Nat), n + k = nk ∧ k ≤ 40 ∧ t = .int .i64 (k : Int) ∧ tg = .slice pa nk ca ∧ Gr wr wb.heap.size 3 1 (.slice pa nk ca) n k (mkI p) ∧ Chg wb wr []) (fun _ t _ => ((40 : Int) - intOf t).toNat)
          case atStart => exact ⟨0, n, some ⟨y, 0, none⟩, n, rfl, by omega, rfl, rfl, Or.inl ⟨rfl, ⟨_, rfl⟩, RY⟩, Chg.refl _ _⟩
          case round =>
            clear RY c1
            obtain ⟨k, nk, pa, ca, hnk, hk, rfl, rfl, G, C4⟩ := hrel
            by_cases h11 : k = 40
            · subst h11
              have hL : ¬ ((40 : Nat) : Int) < 40 := by omega
              have OX : OwnR wr wi.heap.size 3 1 (.slice pa nk ca) nk (mkI p) := by
                rcases G with ⟨h0, _⟩ | h
                · omega
                · rw [hnk] at h; exact ⟨ownsRow_base h.1 HBW.out, h.2⟩
              have HNK : Hid (N p + 40 = nk) := by show N p + 40 = nk; rw [HNP.out]; exact hnk
              obtain ⟨inf, hinf, hz, hs1, hs2⟩ := listRowI
              have A0 := Blk.new wr #[.slice pa nk ca] 46
              have HNW : Hid (∀ j u, ([.slice pa nk ca] : List Value)[j]? = some u → (wr.alloc (.cells #[.slice pa nk ca] 46)).cell? ((⟨wr.heap.size, 0, none⟩ : Addr).add j) = some u) := by
                intro j u hj
                refine add_cell ?_
                rw [Nat.zero_add, A0.cell]
                simpa using hj
              have OL4 := ownsRow_chg OL C4 (by simp)
              have HLA : Hid ((wr.alloc (.cells #[.slice pa nk ca] 46)).ownsRow wi.heap.size 46 1 u6 p us) := OL4.alloc _
              have H63 : Hid (p + 1 ≤ maxLen) := by have := HK.out; have := HPI.out; show p + 1 ≤ maxLen; simp only [maxLen]; omega
              have HBY : Hid ((p + 1) * 24 ≤ 140737488355328) := by have := HK.out; have := HPI.out; show (p + 1) * 24 ≤ 140737488355328; omega
              have HBA : Hid (wi.heap.size ≤ (wr.alloc (.cells #[.slice pa nk ca] 46)).heap.size) := by have := C4.size; have := HBW.out; show wi.heap.size ≤ _; simp; omega
              have HON : Hid (∀ u ∈ ([.slice pa nk ca] : List Value), u.oneCell' = true) := by show ∀ u ∈ ([.slice pa nk ca] : List Value), u.oneCell' = true; simp [Value.oneCell']
              have wasz : (wr.alloc (.cells #[.slice pa nk ca] 46)).heap.size = wr.heap.size + 1 := by simp
              have CA := (C4.alloc (.cells #[.slice pa nk ca] 46))
              have HOB : Hid (∀ x, x ∈ ob u6 → wi.heap.size ≤ x) := fun x hx => (OL.lt x (by unfold ob at hx; simpa using hx)).1
              have HTF : Hid (∀ W v m Fm, Chg wr W [] → OwnR W wi.heap.size 3 1 v m Fm → ∀ q ∈ ob v, ¬ q ∈ ob u6) := fun W v m Fm hW hv q hq hq2 => by
                obtain ⟨C1, hC1⟩ := ownR_blk hv hq
                obtain ⟨C2, hC2⟩ := ownsRow_blk OL4 hq2
                exact hC1.ne (hC2.chg hW (by simp)) (by decide) rfl
              clear G A0 hk hnk
              go_wp2_with (with_reducible refine wpList_append_lies _ ?_ (.tmp 62) (.tmp 64) 54 ?_ wi.heap.size 46 inf (.slice none 0 0) 1 24 Try.underlying54 hinf hz hs1 hs2 ?_ ?_ u6 p us ?_ HLA.out ⟨wr.heap.size, 0, none⟩ 1 1 [.slice pa nk ca] ?_ ?_ HNW.out HON.out ?_ H63.out HBY.out HBA.out (wr.heap.size + 1) ?_ ?_
                           · rfl
                           · rfl
                           · rfl
                           · decide
                           · rfl
                           · rfl
                           · rfl
                           · decide
                           · exact wasz
                           intro lg5 lc5 w5 O5 G5 hat hlt
                           replace G5 := Chg.grown G5)
              have CW := (C3.trans1 CA).trans G5 (fun x hx => Or.inr (HOB.out x hx))
              refine ⟨⟨p + 1, us ++ [.slice pa nk ca], HPI.out, rfl, O5, fun j hj => ?_, CW⟩, HM3.out⟩
              have hK : Chg wr (wr.alloc (.cells #[.slice pa nk ca] 46)) [] := (Chg.refl wr []).alloc _
              have hul : us.length = p := by have q := OL.1; simpa using q
              by_cases hjp : j = p
              · subst hjp
                refine ⟨.slice pa nk ca, by rw [List.getElem?_append_right (by omega), hul]; simp, ?_⟩
                rw [HNK.out]
                have OX1 := OX.chg hK (by simp)
                exact OX1.chg G5 (HTF.out _ _ _ _ hK OX1)
              · obtain ⟨x, hx1, hx2⟩ := HX j (by omega)
                refine ⟨x, by rw [List.getElem?_append_left (by omega)]; exact hx1, ?_⟩
                have hx3 := hx2.chg CA (by simp)
                exact hx3.chg G5 (HTF.out _ _ _ _ hK hx3)
            · have hk40 : k < 40 := by omega
              have hL : (k : Int) < 40 := by omega
              have e4 : IntKind.i64.wrap ((k : Int) + 1) = (k : Int) + 1 := by rw [IntKind.wrap_i64]; omega
              have HK4 : Hid (k + 1 ≤ 40) := hk40
              have HNK : Hid (n + k = nk) := hnk
              have HNM : Hid (nk ≤ 140737488355331) := by have := HN1.out; show nk ≤ _; omega
              have HM4 : Hid (((40 : Int) - intOf (.int .i64 ((k : Int) + 1))).toNat < ((40 : Int) - intOf (.int .i64 (k : Int))).toNat) := by show ((40 : Int) - intOf (.int .i64 ((k : Int) + 1))).toNat < ((40 : Int) - intOf (.int .i64 (k : Int))).toNat; simp [intOf] <;> omega
              have HBY : Hid ((n + k + 1) * 8 ≤ 140737488355328) := by have := HN1.out; show (n + k + 1) * 8 ≤ 140737488355328; omega
              have H63 : Hid (n + k + 1 ≤ 9223372036854775807) := by have := HN1.out; show n + k + 1 ≤ 9223372036854775807; omega
              obtain ⟨inf, hinf, hz, hs1, hs2⟩ := intRow
              clear hk40 h11 hk hnk
              go_wp2_with fail
              refine (markInts_s p nk HPM.out HNM.out _).mono ?_
              rintro e w5 ⟨rfl, q⟩
              have K5 : Chg wr (w5.alloc (.cells #[.int .i64 (mI p nk)] 3)) [] := q.alloc _
              have G6 := G.chg K5
              have RX : Rl (w5.alloc (.cells #[.int .i64 (mI p nk)] 3)) 1 (.slice (some ⟨w5.heap.size, 0, none⟩) 1 1) 1 (fun _ => mkI p (n + k)) := by rw [HNK.out]; exact rl_oneI (Blk.new w5 _ _)
              have C7 := C4.trans1 K5
              have HBS : Hid (wb.heap.size ≤ (w5.alloc (.cells #[.int .i64 (mI p nk)] 3)).heap.size) := C7.size
              clear G q
              go_wp2_with (with_reducible refine append_g ?_ (.tmp 55) (.tmp 60) 46 ?_ 3 inf (.int .i64 0) 1 8 Try.underlying46 hinf hz hs1 hs2 ?_ ?_ wb.heap.size (.slice pa nk ca) (.slice (some ⟨w5.heap.size, 0, none⟩) 1 1) n k HN0.out (mkI p) (mkI_ok p) ?_ ?_ G6 RX HBY.out H63.out HBS.out ?_
                           · rfl
                           · rfl
                           · rfl
                           · decide
                           · rfl
                           · rfl
                           intro g5 c5 w6 l6 O6 C6 hl6)
              exact ⟨⟨k + 1, n + k + 1, some ⟨g5, 0, none⟩, c5, rfl, HK4.out, rfl, rfl, Or.inr O6, C7.trans C6 (fun x hx => Or.inr (hl6 x hx))⟩, HM4.out⟩
    · have hiK : i < K := by omega
      have hI : (i : Int) < (K : Int) := by omega
      have e1 : IntKind.i64.wrap ((i : Int) + 1) = (i : Int) + 1 := by have := HK.out; rw [IntKind.wrap_i64]; omega
      obtain ⟨hn0, hn1⟩ := HN.out i hiK
      have c1 := HC.out wi C i hiK
      have BY0 := AB i hiK
      rw [nA_self] at BY0
      have HOI : Hid (∀ j, j < K → ¬ j = i → ¬ o j = o i) := fun j hj hne => HD.out j i hj hiK hne
      have HMY : Hid (o i ∈ os o K) := os_mem o hiK
      have HIK : Hid (i < K) := hiK
      obtain ⟨y, hy⟩ : ∃ y, o i = y := ⟨_, rfl⟩
      obtain ⟨n, hn⟩ : ∃ n, N i = n := ⟨_, rfl⟩
      rw [hy] at c1 BY0 HOI HMY
      rw [hn] at c1 BY0 hn0 hn1
      have HY : Hid (o i = y) := hy
      have HNN : Hid (N i = n) := hn
      have HN1 : Hid (n ≤ 4398046510976) := hn1
      have HIM : Hid (i ≤ 1000) := by have := HK.out; show i ≤ _; omega
      have HM1 : Hid (((K : Int) - intOf (.int .i64 ((i : Int) + 1))).toNat < ((K : Int) - intOf (.int .i64 (i : Int))).toNat) := by show ((K : Int) - intOf (.int .i64 ((i : Int) + 1))).toNat < ((K : Int) - intOf (.int .i64 (i : Int))).toNat; simp [intOf] <;> omega
      have CLL : Hid (∀ w', Chg wi w' [y] → w'.cell? ⟨lg, i, none⟩ = some (.slice (some ⟨y, 0, none⟩) n n)) := fun w' h => by have q := HC.out w' (C.trans h (fun x hx => Or.inl (by simp at hx; rw [hx]; exact HMY.out))) i HIK.out; rw [HY.out, HNN.out] at q; exact q
      clear hy hn hn0 hn1 hiK h8 hi
      go_wp2_with fail
      go_loopw [5] (fun t wr => ∃ k : Nat, k ≤ n ∧ t = .int .i64 (k : Int) ∧ Blk wr y (iC n (nB F i k)) 3 ∧ Chg wi wr [y]) (fun t _ => ((n : Int) - intOf t).toNat)
      case atStart => exact ⟨0, Nat.zero_le _, rfl, by rw [nB_0]; exact BY0, Chg.refl _ _⟩
      case round =>
        clear c1 BY0
        obtain ⟨k, hk, rfl, BY, C2⟩ := hrel
        have CL : Hid (∀ w', Chg wi w' [y] → w'.cell? ⟨lg, i, none⟩ = some (.slice (some ⟨y, 0, none⟩) n n)) := CLL.out
        have c1 := CL.out wr C2
        by_cases h9 : k = n
        · subst h9
          have hJ : ¬ (k : Int) < (k : Int) := by omega
          go_wp2_with fail
          refine ⟨⟨i + 1, by have := HIK.out; omega, rfl, fun j hj => ?_, C.trans C2 (fun x hx => Or.inl (by simp at hx; rw [hx]; exact HMY.out))⟩, HM1.out⟩
          by_cases hji : j = i
          · subst hji
            rw [HY.out, HNN.out, ← nB_end]
            exact BY
          · rw [nA_step F i j hji]
            exact (AB j hj).chg C2 (by simp; exact HOI.out j hj hji)
        · have hkn : k < n := by omega
          have hJ : (k : Int) < (n : Int) := by omega
          have e2 : IntKind.i64.wrap ((k : Int) + 1) = (k : Int) + 1 := by have := HN1.out; rw [IntKind.wrap_i64]; omega
          have HKN : Hid (k < n) := hkn
          have HKM : Hid (k ≤ 140737488355331) := by have := HN1.out; show k ≤ _; omega
          have HUP : Hid ((iC n (nB F i k)).setIfInBounds k (.int .i64 (mI i k)) = iC n (nB F i (k + 1))) := nB_up F i k n
          have HM2 : Hid (((n : Int) - intOf (.int .i64 ((k : Int) + 1))).toNat < ((n : Int) - intOf (.int .i64 (k : Int))).toNat) := by show ((n : Int) - intOf (.int .i64 ((k : Int) + 1))).toNat < ((n : Int) - intOf (.int .i64 (k : Int))).toNat; simp [intOf] <;> omega
          obtain ⟨Q0, hQ0⟩ : ∃ Q, nB F i k = Q := ⟨_, rfl⟩
          rw [hQ0] at BY HUP
          clear hQ0 hkn h9 hk AB
          go_wp2_with fail
          refine wp_region_held_drew (S := fun w' => Chg wi w' [y]) (by kernel_rfl) ((C2).drew) (fun hHeld => ?_)
          replace BY := BY.drew
          refine take_val (v := ?_) 0 (some 32) rfl (by kernel_rfl) (by kernel_rfl) (by kernel_rfl) (fun _ _ _ h => h) rfl rfl (fun w hSw => ?_) hHeld ?_
          rotate_left
          · (go_simp; try with_reducible rfl)
          try simp only [Act.put, List.setIfInBounds_toArray, List.set_cons_zero, List.set_cons_succ]
          refine take_val (v := ?_) 1 (some 33) rfl (by kernel_rfl) (by kernel_rfl) (by kernel_rfl) (fun _ _ _ h => h) rfl rfl (fun w hSw => ?_) hHeld ?_
          rotate_left
          · (go_simp; try with_reducible rfl)
          try simp only [Act.put, List.setIfInBounds_toArray, List.set_cons_zero, List.set_cons_succ]
          refine take_val (v := ?_) 2 (some 34) rfl (by kernel_rfl) (by kernel_rfl) (by kernel_rfl) (fun _ _ _ h => h) rfl rfl (fun w hSw => ?_) hHeld ?_
          rotate_left
          · (go_simp; try with_reducible rfl)
          try simp only [Act.put, List.setIfInBounds_toArray, List.set_cons_zero, List.set_cons_succ]
          refine take_val (v := (.slice (some ⟨y, 0, none⟩) n n)) 3 (some 35) rfl (by kernel_rfl) (by kernel_rfl) (by kernel_rfl) (fun _ _ _ h => h) rfl rfl (fun w hSw => ?_) hHeld ?_
          · have c4 := CL.out w hSw
            (go_simp; try with_reducible rfl)
          try simp only [Act.put, List.setIfInBounds_toArray, List.set_cons_zero, List.set_cons_succ]
          refine take_val (v := ?_) 4 (some 36) rfl (by kernel_rfl) (by kernel_rfl) (by kernel_rfl) (fun _ _ _ h => h) rfl rfl (fun w hSw => ?_) hHeld ?_
          rotate_left
          · (go_simp; try with_reducible rfl)
          try simp only [Act.put, List.setIfInBounds_toArray, List.set_cons_zero, List.set_cons_succ]
          refine take_val (v := ?_) 5 (some 37) rfl (by kernel_rfl) (by kernel_rfl) (by kernel_rfl) (fun _ _ _ h => h) rfl rfl (fun w hSw => ?_) hHeld ?_
          rotate_left
          · (go_simp; try with_reducible rfl)
          try simp only [Act.put, List.setIfInBounds_toArray, List.set_cons_zero, List.set_cons_succ]
          refine take_val (v := ?_) 6 (some 38) rfl (by kernel_rfl) (by kernel_rfl) (by kernel_rfl) (fun _ _ _ h => h) rfl rfl (fun w hSw => ?_) hHeld ?_
          rotate_left
          · (go_simp; try with_reducible rfl)
          try simp only [Act.put, List.setIfInBounds_toArray, List.set_cons_zero, List.set_cons_succ]
          refine wpAnyH_ready (rs := [7]) (by kernel_rfl) (by simp) ?_
          refine AllReadyH.cons (o := _) rfl (fun K hK => ?_) ?_
          ·
            go_simp
            refine (markInts_s i k HIM.out HKM.out _).mono ?_
            rintro e z7 ⟨rfl, q⟩
            replace BY := BY.chg q (by simp)
            go_wp2_with fail
            refine hK.out _ _ (hHeld.trans1 q.wide) (fun hHeld => ?_)
            clear hK K
            try simp only [Act.put, List.setIfInBounds_toArray, List.set_cons_zero, List.set_cons_succ]
            clear q
            refine take_val (v := ?_) 8 (some 40) rfl (by kernel_rfl) (by kernel_rfl) (by kernel_rfl) (fun _ _ _ h => h) rfl rfl (fun w hSw => ?_) hHeld ?_
            rotate_left
            · (go_simp; try with_reducible rfl)
            try simp only [Act.put, List.setIfInBounds_toArray, List.set_cons_zero, List.set_cons_succ]
            refine wpAnyH_ready (rs := [9]) (by kernel_rfl) (by simp) ?_
            refine AllReadyH.cons (o := _) rfl (fun K hK => ?_) ?_
            ·
              rw [if_pos (by rfl)]
              have cq := (BY.cell k).trans (iC_get n Q0 k HKN.out)
              have fq := BY.frozen k
              go_simp
              replace BY := (BY.setCell k (.int .i64 (mI i k))).to HUP.out
              refine hK.out _ _ (hHeld.setIn (by simp) k _) (fun hHeld => ?_)
              clear hK K
              try simp only [Act.put, List.setIfInBounds_toArray, List.set_cons_zero, List.set_cons_succ]
              refine wpAnyH_done (by kernel_rfl) ?_ _
              go_wp2_with fail
              exact ⟨⟨k + 1, HKN.out, rfl, BY, hHeld⟩, HM2.out⟩
            exact AllReadyH.nil
          exact AllReadyH.nil
end Go.Proofs.Ytcdgkhejbdlapab
