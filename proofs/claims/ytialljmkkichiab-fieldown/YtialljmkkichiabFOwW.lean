/- FieldOwn: the walk. -/
import Derived.Test.YtialljmkkichiabBkS
set_option linter.unusedVariables false
set_option linter.unusedSimpArgs false
set_option linter.unnecessarySimpa false
namespace Go.Proofs.Ytialljmkkichiab
open Go.RowKit N

set_option maxHeartbeats 4000000 in
set_option maxRecDepth 100000 in
/-- CopyFes of any list, empty ones among them. -/
theorem CopyFes_any (v : Value) (n : Nat) (F : Nat → List Value) (w : World) (hn : n ≤ 4398046510976) (hv : Rl w 32 v n F) : Calls Try.prog 31 #[v] w fun e w' => ∃ x, e = .returned x ∧ OwnR w' w.heap.size 23 32 x n F ∧ Chg w w' [] := by
  by_cases h0 : 0 < n
  · exact (CopyFes_s v n F w h0 (by omega) hv).mono fun e w' ⟨g, cap, he, ho, hc⟩ => ⟨_, he, ho, hc⟩
  · obtain rfl : n = 0 := by omega
    obtain ⟨inf, hinf, hz, hs1, hs2⟩ := scRow
    rcases hv.2 with ⟨_, rfl⟩ | ⟨g, o, cap, rfl, h1, h2, h3, h4⟩
    · go_enter Try.func31, Try.ntmps31
      go_wp2_with (refine wpList_append_own_none rfl (.tmp 4) (.tmp 5) 52 rfl w.heap.size 23 inf 32 Try.underlying52 hinf (.slice none 0 0) 0 [] rfl (World.ownsRow_nil _ _ _ _) rfl ?_)
      go_ret
      exact ⟨_, rfl, OwnR.nil _ _ _ _ F, Chg.refl _ _⟩
    · go_enter Try.func31, Try.ntmps31
      go_wp2_with (refine wpList_append_own_wide w rfl (.tmp 4) (.tmp 5) 52 rfl w.heap.size 23 inf (.agg z32) 32 32 Try.underlying52 hinf hz hs1 hs2 rfl (by decide) (.slice none 0 0) 0 [] rfl (World.ownsRow_nil _ _ _ _) ⟨g, o, none⟩ 0 cap [] rfl rfl (by simp) (by simp) (by simp [maxLen]) (by decide) (Nat.le_refl _) ?_; intro v' w1 O1 q1 hnil; obtain rfl := hnil.2 ⟨rfl, rfl⟩; replace q1 : Chg w w1 [] := Chg.grown (v := .slice none 0 0) q1)
      go_ret
      exact ⟨_, rfl, OwnR.nil _ _ _ _ F, q1⟩
set_option maxRecDepth 100000 in
/-- Book.Fes of a list just made, an empty one among them. -/
theorem fes_any {w0 w : World} {gb bx bo K : Nat} (h : BkS w0 gb bx bo K) (hc : Chg w0 w []) (hK : K ≤ 1000) {x n : Nat} {G : Nat → List Value} (hn : n ≤ 4398046510976) (hx : Blk w x (rL 32 n G).toArray 23) (hG : Rok 32 n G) (hb : bo ≤ x) (hf : w0.heap.size ≤ x) :
    Calls Try.prog 32 #[.pointer (some ⟨gb, 0, none⟩), .slice (some ⟨x, 0, none⟩) n n] w fun e w' => e = .returned (.tuple #[]) ∧ (∃ K', K' ≤ K + 1 ∧ BkS w' gb bx bo K') ∧ ∃ l, Chg w w' l ∧ (∀ y, y ∈ l → bx ≤ y) ∧ ∀ z C, Blk w z C 23 → ¬ z ∈ l := by
  by_cases h0 : 0 < n
  · exact (BkS.add hK ⟨h0, by omega⟩ hx hG hb ⟨w0, h, hc, hf⟩).mono fun e w' ⟨he, hs, hl⟩ => ⟨he, ⟨_, Nat.le_refl _, hs⟩, hl⟩
  · obtain rfl : n = 0 := by omega
    refine (BookFes_0 gb _ 0 w).mono ?_
    rintro e w' ⟨rfl, rfl⟩
    exact ⟨rfl, ⟨K, by omega, h.chg hc⟩, [], Chg.refl _ _, fun y hy => by simp at hy, fun z C _ hz => by simp at hz⟩
def bNil : Nat → Value := fun _ => .slice none 0 0
theorem zBook : #[Value.slice none 0 0, .slice none 0 0, .slice none 0 0, .slice none 0 0, .slice none 0 0, .slice none 0 0, .slice none 0 0, .slice none 0 0, .slice none 0 0, .slice none 0 0, .slice none 0 0, .slice none 0 0, .slice none 0 0, .slice none 0 0, .slice none 0 0, .slice none 0 0, .slice none 0 0, .slice none 0 0, .slice none 0 0, .slice none 0 0, .slice none 0 0] = bkC bNil := by kernel_rfl
theorem ownR_ge' {w : World} {base : Nat} {T : TypeId} {s : Nat} {v : Value} {n : Nat} {F : Nat → List Value} (h : OwnR w base T s v n F) : ∀ k ∈ ob v, base ≤ k ∧ k < w.heap.size := fun k hk =>
  h.1.lt k (by unfold ob at hk; cases hq : v.ownBlock with
    | none => rw [hq] at hk; simp at hk
    | some x => rw [hq] at hk; simp at hk; rw [hk])
set_option maxHeartbeats 16000000 in
set_option maxRecDepth 100000 in
theorem own_walk (hal : ∀ w, Calls Try.prog 9 #[] w fun e w' => e = .returned (.bool true) ∧ Chg w w' []) (v1 v2 : Value) (n m : Nat) (f g : Nat → Nat) (hn : n ≤ 4398046510976) (hm : m ≤ 4398046510976) (w : World) (h1 : Ls w v1 n f) (h2 : Ls w v2 m g) :
    Calls Try.prog 8 #[v1, v2] w fun e w' => e = .returned (.bool true) ∧ Chg w w' [] := by
  have HAL : Hid (∀ w, Calls Try.prog 9 #[] w fun e w' => e = .returned (.bool true) ∧ Chg w w' []) := hal
  have HN : Hid (n ≤ 4398046510976) := hn
  have HM : Hid (m ≤ 4398046510976) := hm
  have HL1 : Hid (∀ W, Chg w W [] → Ls W v1 n f) := fun W h => h1.chg h (Off.nil _)
  have HL2 : Hid (∀ W, Chg w W [] → Ls W v2 m g) := fun W h => h2.chg h (Off.nil _)
  have HF1 : Hid (∀ i, i < n → f i < 115792089237316195423570985008687907853269984665640564039457584007913129639936) := h1.1
  have HF2 : Hid (∀ i, i < m → g i < 115792089237316195423570985008687907853269984665640564039457584007913129639936) := h2.1
  clear hal hn hm h1 h2
  go_enter Try.func8, Try.ntmps8
  go_wp2_with fail
  refine (HAL.out _).mono ?_
  rintro e w1 ⟨rfl, CC⟩
  go_wp2_with fail
  rw [zBook]
  have BK : BkS (w1.alloc (.cells (bkC bNil) 75)) w1.heap.size w1.heap.size 0 0 := BkS.zero (fun _ _ => rfl) (Blk.new _ _ _) (Nat.le_refl _)
  have HGB : Hid (w.heap.size ≤ w1.heap.size) := CC.size
  replace CC : Chg w (w1.alloc (.cells (bkC bNil) 75)) [] := CC.alloc _
  generalize w1.alloc (.cells (bkC bNil) 75) = w2 at *
  generalize w1.heap.size = gb at *
  refine (CopyFes_any v1 n (fR f) w2 HN.out (HL1.out w2 CC).rl).mono ?_
  rintro e w3 ⟨x, rfl, OX, k⟩
  replace CC := CC.trans1 k
  replace BK := BK.chg k
  have HXB : Hid (∀ q, q ∈ ob x → q < w3.heap.size) := fun q hq => (ownR_ge' OX q hq).2
  clear k
  obtain ⟨B, o, N, F, vs, b1, b2, b3, b4, b5, b6⟩ := BK
  have BK : BkS w3 gb gb w3.heap.size 0 := ⟨B, o, N, F, vs, b1, b2, b3, b4, fun j hj => absurd hj (by omega), fun i j hi _ => absurd hi (by omega)⟩
  obtain ⟨bo, hbo⟩ : ∃ b, w3.heap.size = b := ⟨_, rfl⟩
  have HBO : Hid (bo ≤ w3.heap.size) := by show bo ≤ w3.heap.size; omega
  have HWB : Hid (w.heap.size ≤ bo) := by have := CC.size; show w.heap.size ≤ bo; omega
  rw [hbo] at BK HXB
  obtain ⟨bx2, hbx2⟩ : ∃ b, w2.heap.size = b := ⟨_, rfl⟩
  rw [hbx2] at OX
  clear b1 b2 b3 b4 b5 b6 B o N F vs hbo hbx2
  go_wp2_with fail
  go_loopw [7] (fun t wr => ∃ i K : Nat, i ≤ 3 ∧ K ≤ i ∧ t = .int .i64 (i : Int) ∧ BkS wr gb gb bo K ∧ OwnR wr bx2 23 32 x n (fR f) ∧ Chg w wr [] ∧ bo ≤ wr.heap.size) (fun t _ => ((3 : Int) - intOf t).toNat)
  case atStart => exact ⟨0, 0, by omega, by omega, rfl, BK, OX, CC, HBO.out⟩
  case round =>
    clear BK OX CC
    obtain ⟨i, K, hi, hK, rfl, BK, OX, CC, hbo⟩ := hrel
    by_cases h8 : i = 3
    · subst h8
      have hI : ¬ ((3 : Nat) : Int) < 3 := by omega
      have HKK : Hid (K ≤ 1000) := by show K ≤ 1000; omega
      clear hi hK
      go_wp2_with fail
      refine (BK.apart HKK.out).mono ?_
      rintro e w4 ⟨rfl, o, k, ho⟩
      have hx4 : ∀ q ∈ ob x, ¬ q ∈ os o K := fun q hq hm => by
        obtain ⟨j, hj, e⟩ := mem_os hm
        have := HXB.out q hq
        have := ho j hj
        omega
      replace OX := OX.chg k hx4
      replace CC : Chg w w4 [] := CC.trans k (fun q hq => Or.inr (by obtain ⟨j, hj, e⟩ := mem_os hq; have := ho j hj; have := HWB.out; omega))
      clear k ho hx4
      go_wp2_with fail
      refine (SameFes_t x v1 n f (by have := HN.out; omega) w4 (OX.rl.ls HF1.out) (HL1.out w4 CC)).mono ?_
      rintro e w5 ⟨rfl, k⟩
      go_wp2_with fail
      go_ret
      exact ⟨rfl, CC.trans1 k⟩
    · have hi3 : i < 3 := by omega
      have hI : (i : Int) < 3 := by omega
      have e1 : IntKind.i64.wrap ((i : Int) + 1) = (i : Int) + 1 := by rw [IntKind.wrap_i64]; omega
      have HI1 : Hid (i + 1 ≤ 3) := hi3
      have HKI : Hid (K ≤ i) := hK
      have HKK : Hid (K ≤ 1000) := by show K ≤ 1000; omega
      have HMs : Hid (((3 : Int) - intOf (.int .i64 ((i : Int) + 1))).toNat < ((3 : Int) - intOf (.int .i64 (i : Int))).toNat) := by show ((3 : Int) - intOf (.int .i64 ((i : Int) + 1))).toNat < ((3 : Int) - intOf (.int .i64 (i : Int))).toNat; simp [intOf] <;> omega
      have HB0 : Hid (bo ≤ wr.heap.size) := hbo
      by_cases h9 : i = 1
      · have hE : (i : Int) = 1 := by omega
        have H9 : Hid (i = 1) := h9
        clear h8 hi hK hi3 h9 hbo
        go_wp2_with fail
        refine (CopyFes_any v2 m (fR g) wr HM.out (HL2.out wr CC).rl).mono ?_
        rintro e w4 ⟨y, rfl, OY, k⟩
        replace CC := CC.trans1 k
        replace BK := BK.chg k
        replace OX := OX.chg k (by simp)
        have HB4 : Hid (bo ≤ w4.heap.size) := Nat.le_trans HB0.out k.size
        clear k
        go_wp2_with fail
        refine (InvertAll_n y m g (by have := HM.out; omega) w4 (OY.rl.ls HF2.out)).mono ?_
        rintro e w5 ⟨z, rfl, hz, BZ, k⟩
        replace CC := CC.trans1 k
        replace OX := OX.chg k (by simp)
        go_wp2_with fail
        refine (fes_any BK k HKK.out HM.out BZ (bkR_ok g 0 m) (Nat.le_trans HB4.out hz) hz).mono ?_
        rintro e w6 ⟨rfl, ⟨K', hK', BK'⟩, l, k2, hl, far⟩
        replace OX := OX.chg k2 (fun q hq => by obtain ⟨C, hC⟩ := ownR_blk OX hq; exact far q C hC)
        replace CC := CC.trans k2 (fun q hq => Or.inr (Nat.le_trans HGB.out (hl q hq)))
        have HB6 := Nat.le_trans (Nat.le_trans HB4.out k.size) k2.size
        have HKf : K' ≤ i + 1 := by have := HKI.out; omega
        clear k k2 hl far hz BZ BK hK'
        go_wp2_with fail
        exact ⟨⟨2, K', by omega, by have := H9.out; omega, rfl, BK', OX, CC, HB6⟩, by rw [H9.out]; decide⟩
      · have hE : ¬ (i : Int) = 1 := by omega
        clear h8 hi hK hi3 h9 hbo
        go_wp2_with fail
        refine (InvertAll_n x n f (by have := HN.out; omega) wr (OX.rl.ls HF1.out)).mono ?_
        rintro e w5 ⟨z, rfl, hz, BZ, k⟩
        replace CC := CC.trans1 k
        replace OX := OX.chg k (by simp)
        go_wp2_with fail
        refine (fes_any BK k HKK.out HN.out BZ (bkR_ok f 0 n) (Nat.le_trans HB0.out hz) hz).mono ?_
        rintro e w6 ⟨rfl, ⟨K', hK', BK'⟩, l, k2, hl, far⟩
        replace OX := OX.chg k2 (fun q hq => by obtain ⟨C, hC⟩ := ownR_blk OX hq; exact far q C hC)
        replace CC := CC.trans k2 (fun q hq => Or.inr (Nat.le_trans HGB.out (hl q hq)))
        have HB6 := Nat.le_trans (Nat.le_trans HB0.out k.size) k2.size
        have HKf : K' ≤ i + 1 := by have := HKI.out; omega
        clear k k2 hl far hz BZ BK hK'
        go_wp2_with fail
        exact ⟨⟨i + 1, K', HI1.out, HKf, rfl, BK', OX, CC, HB6⟩, HMs.out⟩
end Go.Proofs.Ytialljmkkichiab
