/- Joined: Sh1, Sh2, ShB, SEv, Sh3. -/
import Derived.Test.YtoafcaieifjoiaaGreatMgA
import Derived.Test.YtoafcaieifjoiaaGreatMgB
import Derived.Test.YtoafcaieifjoiaaGreatMgC
import Derived.OwnWalk
import Derived.RangeFuncNested
import Derived.RangeFuncBound
import Derived.RangeFuncCalls
import Derived.RangeFuncLeaves
import Derived.Shelf.Abstract
import Derived.Shelf.RegionOpen
import Derived.WalkKit
import Derived.OwnWalkIn
import Derived.TacticsInMore
import Derived.LoopNIn
import Derived.LoopIn
/- shamir: identifiers that may be; lists of ints. -/
set_option linter.unusedVariables false
set_option linter.unusedSimpArgs false
set_option linter.unnecessarySimpa false
namespace Go.Proofs.YtoafcaieifjoiaaGreat
open Go.RowKit N

/-- May an identifier be? -/
def okI (d : Int) : Bool := decide (1 ≤ d) && decide (d ≤ 255)
theorem okI_t {d : Int} (h : 1 ≤ d ∧ d ≤ 255) : okI d = true := by unfold okI; simp [h.1, h.2]
theorem okI_f {d : Int} (h : ¬ (1 ≤ d ∧ d ≤ 255)) : okI d = false := by
  unfold okI; by_cases h1 : 1 ≤ d
  · have : ¬ d ≤ 255 := fun h2 => h ⟨h1, h2⟩
    simp [this]
  · simp [h1]
theorem okI_is {d : Int} (h : okI d = true) : 1 ≤ d ∧ d ≤ 255 := by
  by_cases h1 : 1 ≤ d ∧ d ≤ 255
  · exact h1
  · rw [okI_f h1] at h; cases h
theorem isID_s (d : Int) (w : World) : Calls Tryz.prog 39 #[.int .i64 d] w fun e w' => e = .returned (.bool (okI d)) ∧ w' = w := by
  go_enter Tryz.func39, Tryz.ntmps39
  by_cases h1 : 1 ≤ d
  · by_cases h2 : d ≤ 255
    · rw [okI_t ⟨h1, h2⟩]
      go_wp2
      go_ret
      exact ⟨rfl, rfl⟩
    · rw [okI_f (fun h => h2 h.2)]
      go_wp2
      go_ret
      exact ⟨rfl, rfl⟩
  · rw [okI_f (fun h => h1 h.1)]
    go_wp2
    go_ret
    exact ⟨rfl, rfl⟩
theorem isThreshold_s (d : Int) (w : World) : Calls Tryz.prog 81 #[.int .i64 d] w fun e w' => e = .returned (.bool (okI d)) ∧ w' = w := by
  go_enter Tryz.func81, Tryz.ntmps81
  by_cases h1 : 1 ≤ d
  · by_cases h2 : d ≤ 255
    · rw [okI_t ⟨h1, h2⟩]
      go_wp2
      go_ret
      exact ⟨rfl, rfl⟩
    · rw [okI_f (fun h => h2 h.2)]
      go_wp2
      go_ret
      exact ⟨rfl, rfl⟩
  · rw [okI_f (fun h => h1 h.1)]
    go_wp2
    go_ret
    exact ⟨rfl, rfl⟩
theorem wo_small {d : Int} (h : 0 ≤ d ∧ d < 9223372036854775808) : Wo d := by unfold Wo; omega
set_option maxHeartbeats 4000000 in
set_option maxRecDepth 100000 in
theorem place_s (d : Int) (hd : 0 ≤ d ∧ d < 9223372036854775808) (w : World) : Calls Tryz.prog 40 #[.int .i64 d] w fun e w' => e = .returned (fe d) ∧ Chg w w' [] := by
  have F0 : Blk (w.alloc (.cells z32 24)) w.heap.size z32 24 := Blk.new w z32 24
  have hc : Chg w (w.alloc (.cells z32 24)) [] := (Chg.refl w []).alloc _
  have e1 : IntKind.u64.wrap d = d := by rw [IntKind.wrap_u64]; omega
  have hw : Wo d := wo_small hd
  clear hd
  go_enter Tryz.func40, Tryz.ntmps40
  go_wp2_with fail
  refine (FromInt_s d hw _).mono ?_
  rintro e v1 ⟨rfl, k⟩
  replace F0 := F0.chg k (by simp)
  replace hc := hc.trans1 k
  go_wp2_with (refine wpList_store_row rfl 24 _ _ rfl w.heap.size _ rfl rfl 24 _ F0 feInfo rfl (feC_one _) ?_)
  exact bodyPost_ret (results_cell_row Tryz.results40 _ _ w.heap.size 24 (feC d) (0, 0) _ rfl (Blk.setRow F0 _) Tryz.underlying24 rfl feInfo) rfl ⟨rfl, hc.setRowNew (by omega) _⟩

/-! ### What a list has had so far -/
/-- 256 bools. -/
def kC (f : Nat → Bool) : Array Value := ((List.range 256).map fun i => Value.bool (f i)).toArray
theorem kC_get (f : Nat → Bool) (i : Nat) (h : i < 256) : (kC f)[i]? = some (.bool (f i)) := by simp [kC, h]
def kup (f : Nat → Bool) (n : Nat) : Nat → Bool := fun i => if i = n then true else f i
theorem kC_set (f : Nat → Bool) (n : Nat) : (kC f).setIfInBounds n (.bool true) = kC (kup f n) := by
  apply Array.ext_getElem?
  intro i
  by_cases h : n = i
  · subst h
    by_cases h2 : n < 256
    · rw [kC_get _ _ h2, Array.getElem?_setIfInBounds_self_of_lt (by simp [kC, h2])]; simp [kup]
    · rw [Array.getElem?_eq_none (by simp [kC]; omega), Array.getElem?_eq_none (by simp [kC]; omega)]
  · rw [Array.getElem?_setIfInBounds_ne h]
    by_cases h2 : i < 256
    · rw [kC_get _ _ h2, kC_get _ _ h2]; simp [kup, show ¬ i = n from fun h3 => h h3.symm]
    · rw [Array.getElem?_eq_none (by simp [kC]; omega), Array.getElem?_eq_none (by simp [kC]; omega)]
theorem take_bad (b : Nat) (d : Int) (hd : ¬ (1 ≤ d ∧ d ≤ 255)) (w : World) : Calls Tryz.prog 94 #[.pointer (some ⟨b, 0, none⟩), .int .i64 d] w fun e w' => e = .returned (.int .i64 4) ∧ w' = w := by
  have ho := okI_f hd
  clear hd
  go_enter Tryz.func94, Tryz.ntmps94
  go_wp2_with (go_at_call 39; refine (isID_s _ _).mono ?_; rintro e w' ⟨rfl, rfl⟩; rw [ho])
  go_ret
  exact ⟨rfl, rfl⟩
theorem take_twice (b : Nat) (d : Nat) (hd : 1 ≤ d ∧ d ≤ 255) (f : Nat → Bool) (hf : f d = true) (w : World) (hB : Blk w b (kC f) 158) : Calls Tryz.prog 94 #[.pointer (some ⟨b, 0, none⟩), .int .i64 (d : Int)] w fun e w' => e = .returned (.int .i64 5) ∧ w' = w := by
  have ho : okI (d : Int) = true := okI_t (by omega)
  have hc : w.cell? ⟨b, d, none⟩ = some (.bool true) := by rw [hB.cell, kC_get _ _ (by omega), hf]
  have h1 : (d : Int) < 256 := by omega
  have h0 : (0 : Int) ≤ (d : Int) := by omega
  clear hd hB
  go_enter Tryz.func94, Tryz.ntmps94
  go_wp2_with (go_at_call 39; refine (isID_s _ _).mono ?_; rintro e w' ⟨rfl, rfl⟩; rw [ho])
  go_ret
  exact ⟨rfl, rfl⟩
theorem take_ok (b : Nat) (d : Nat) (hd : 1 ≤ d ∧ d ≤ 255) (f : Nat → Bool) (hf : f d = false) (w : World) (hB : Blk w b (kC f) 158) : Calls Tryz.prog 94 #[.pointer (some ⟨b, 0, none⟩), .int .i64 (d : Int)] w fun e w' => e = .returned (.int .i64 0) ∧ Blk w' b (kC (kup f d)) 158 ∧ Chg w w' [b] := by
  have ho : okI (d : Int) = true := okI_t (by omega)
  have hc : w.cell? ⟨b, d, none⟩ = some (.bool false) := by rw [hB.cell, kC_get _ _ (by omega), hf]
  have hz : w.frozen? ⟨b, d, none⟩ = false := hB.frozen d
  have h1 : (d : Int) < 256 := by omega
  have h0 : (0 : Int) ≤ (d : Int) := by omega
  have B1 : Blk (w.setCell ⟨b, d, none⟩ (.bool true)) b (kC (kup f d)) 158 := (hB.setCell d (.bool true)).to (kC_set f d)
  have C1 : Chg w (w.setCell ⟨b, d, none⟩ (.bool true)) [b] := (Chg.refl w [b]).setIn (by simp) d _
  clear hd hB
  go_enter Tryz.func94, Tryz.ntmps94
  go_wp2_with (go_at_call 39; refine (isID_s _ _).mono ?_; rintro e w' ⟨rfl, rfl⟩; rw [ho])
  go_ret
  exact ⟨rfl, B1, C1⟩

/-! ### Lists of ints -/
/-- A list of N ints f. -/
def Il (w : World) (v : Value) (N : Nat) (f : Nat → Int) : Prop :=
  (N = 0 ∧ v = .slice none 0 0) ∨ ∃ g o cap, v = .slice (some ⟨g, o, none⟩) N cap ∧ N ≤ cap ∧ cap ≤ 9223372036854775807 ∧ g < w.heap.size ∧ ∀ i, i < N → w.cell? ⟨g, o + i, none⟩ = some (.int .i64 (f i))
theorem cell_chg {w w' : World} {g i : Nat} {l : List Nat} {x : Value} (h : w.cell? ⟨g, i, none⟩ = some x) (hg : g < w.heap.size) (hc : Chg w w' l) (hn : ¬ g ∈ l) : w'.cell? ⟨g, i, none⟩ = some x := by
  rw [← h]; simp only [World.cell?, hc.block g hg hn]
theorem Il.chg {w w' : World} {v : Value} {N : Nat} {f : Nat → Int} (h : Il w v N f) (hc : Chg w w' []) : Il w' v N f := by
  rcases h with h2 | ⟨g, o, cap, rfl, h1, h2, h3, h4⟩
  · exact Or.inl h2
  · exact Or.inr ⟨g, o, cap, rfl, h1, h2, Nat.lt_of_lt_of_le h3 hc.size, fun i hi => cell_chg (h4 i hi) h3 hc (by simp)⟩
theorem Il.form {w : World} {v : Value} {N : Nat} {f : Nat → Int} (h : Il w v N f) : ∃ p c, v = .slice p N c ∧ ∀ i, i < N → ∃ g o, p = some ⟨g, o, none⟩ ∧ g < w.heap.size ∧ w.cell? ⟨g, o + i, none⟩ = some (.int .i64 (f i)) := by
  rcases h with ⟨rfl, rfl⟩ | ⟨g, o, cap, rfl, h1, h2, h3, h4⟩
  · exact ⟨none, 0, rfl, fun i hi => by omega⟩
  · exact ⟨_, cap, rfl, fun i hi => ⟨g, o, rfl, h3, h4 i hi⟩⟩

/-! ### The first fault of a list of identifiers -/
/-- Which identifiers stand among the first i. -/
def kn (f : Nat → Int) (i : Nat) : Nat → Bool := fun n => (List.range i).any fun j => decide (f j = (n : Int))
theorem kn_0 (f : Nat → Int) : kn f 0 = fun _ => false := by funext n; simp [kn]
theorem kn_s (f : Nat → Int) (i n : Nat) (h : f i = (n : Int)) : kup (kn f i) n = kn f (i + 1) := by
  funext m
  unfold kup kn
  rw [List.range_succ, List.any_append]
  simp only [List.any_cons, List.any_nil, Bool.or_false]
  by_cases hm : m = n
  · subst hm; simp [h]
  · have : ¬ f i = (m : Int) := by rw [h]; omega
    simp [hm, this]
def idE (f : Nat → Int) : Nat → Int
  | 0 => 0
  | k + 1 => if idE f k = 0 then (if okI (f k) then (if kn f k (f k).toNat then 5 else 0) else 4) else idE f k
def idR (f : Nat → Int) (N : Nat) : Int := if N = 0 then 8 else idE f N
theorem idE_stays (f : Nat → Int) {k : Nat} (h : ¬ idE f k = 0) : ∀ m, k ≤ m → idE f m = idE f k := by
  intro m hm
  induction m with
  | zero => rw [show k = 0 by omega]
  | succ n ih =>
    by_cases h2 : k = n + 1
    · rw [h2]
    · have e := ih (by omega)
      show (if idE f n = 0 then _ else idE f n) = _
      rw [if_neg (by rw [e]; exact h), e]
theorem idE_bad {f : Nat → Int} {k : Nat} (h0 : idE f k = 0) (h : ¬ (1 ≤ f k ∧ f k ≤ 255)) : idE f (k + 1) = 4 := by
  unfold idE; rw [if_pos h0, okI_f h]; rfl
theorem idE_twice {f : Nat → Int} {k n : Nat} (h0 : idE f k = 0) (h : 1 ≤ f k ∧ f k ≤ 255) (hn : f k = (n : Int)) (hk : kn f k n = true) : idE f (k + 1) = 5 := by
  unfold idE; rw [if_pos h0, okI_t h, hn, Int.toNat_natCast, hk]; rfl
theorem idE_ok {f : Nat → Int} {k n : Nat} (h0 : idE f k = 0) (h : 1 ≤ f k ∧ f k ≤ 255) (hn : f k = (n : Int)) (hk : kn f k n = false) : idE f (k + 1) = 0 := by
  unfold idE; rw [if_pos h0, okI_t h, hn, Int.toNat_natCast, hk]; rfl
/-- What a list that may be has. -/
theorem idE_zero {f : Nat → Int} : ∀ {N : Nat}, idE f N = 0 → (∀ i, i < N → 1 ≤ f i ∧ f i ≤ 255) ∧ ∀ i j, i < N → j < N → f i = f j → i = j
  | 0, _ => ⟨fun i hi => by omega, fun i j hi => by omega⟩
  | N + 1, h => by
    have h0 : idE f N = 0 := by
      by_cases h2 : idE f N = 0
      · exact h2
      · unfold idE at h; rw [if_neg h2] at h; exact h
    obtain ⟨q1, q2⟩ := idE_zero h0
    unfold idE at h
    rw [if_pos h0] at h
    by_cases h3 : okI (f N) = true
    · rw [if_pos h3] at h
      have hb := okI_is h3
      have h4 : kn f N (f N).toNat = false := by
        by_cases h5 : kn f N (f N).toNat = true
        · rw [if_pos h5] at h; omega
        · simpa using h5
      have h6 : ∀ j, j < N → ¬ f j = f N := fun j hj he => by
        unfold kn at h4
        rw [List.any_eq_false] at h4
        have := h4 j (List.mem_range.2 hj)
        simp at this
        apply this
        omega
      refine ⟨fun i hi => ?_, fun i j hi hj he => ?_⟩
      · by_cases h7 : i = N
        · rw [h7]; exact hb
        · exact q1 i (by omega)
      · by_cases h7 : i = N
        · by_cases h8 : j = N
          · omega
          · subst h7; exact absurd he.symm (h6 j (by omega))
        · by_cases h8 : j = N
          · subst h8; exact absurd he (h6 i (by omega))
          · exact q2 i j (by omega) (by omega) he
    · rw [if_neg h3] at h; omega
end Go.Proofs.YtoafcaieifjoiaaGreat

/- shamir.checkIDs, checkShares, checkEnough, idsOf. -/
namespace Go.Proofs.YtoafcaieifjoiaaGreat
open Go.RowKit N

theorem kC_zero : Tryz.zeroCells158 = kC (fun _ => false) := by kernel_rfl
set_option maxHeartbeats 8000000 in
set_option maxRecDepth 100000 in
theorem checkIDs_s (v : Value) (N : Nat) (f : Nat → Int) (hN : N ≤ 4611686018427387904) (w : World) (hL : Il w v N f) :
    Calls Tryz.prog 42 #[v] w fun e w' => e = .returned (.int .i64 (idR f N)) ∧ Chg w w' [] := by
  obtain ⟨p, cp, rfl, hp⟩ := hL.form
  clear hL
  by_cases h0 : N = 0
  · subst h0
    go_enter Tryz.func42, Tryz.ntmps42
    go_wp2_with fail
    go_ret
    exact ⟨rfl, Chg.refl w []⟩
  · have hz : ¬ (N : Int) = 0 := by omega
    have hzz : ((N : Int) == 0) = false := by simp; omega
    have HR : Hid (idR f N = idE f N) := by show idR f N = idE f N; unfold idR; rw [if_neg h0]
    have HP : Hid (∀ i, i < N → ∃ g o, p = some ⟨g, o, none⟩ ∧ g < w.heap.size ∧ w.cell? ⟨g, o + i, none⟩ = some (.int .i64 (f i))) := hp
    have HN : Hid (N ≤ 4611686018427387904) := hN
    have K0 : Blk (w.alloc (.cells Tryz.zeroCells158 158)) w.heap.size (kC (kn f 0)) 158 := (Blk.new w _ _).to (by rw [kC_zero, kn_0])
    have C0 : Chg w (w.alloc (.cells Tryz.zeroCells158 158)) [] := (Chg.refl w []).alloc _
    clear hp hN h0
    go_enter Tryz.func42, Tryz.ntmps42
    go_wp2_with fail
    generalize w.alloc (.cells Tryz.zeroCells158 158) = v0 at *
    obtain ⟨kb, hkb⟩ : ∃ b, w.heap.size = b := ⟨_, rfl⟩
    have HK : Hid (w.heap.size ≤ kb) := by show w.heap.size ≤ kb; omega
    rw [hkb] at K0
    rw [hkb]
    clear hkb
    go_loopw [12] (fun t wr => ∃ i : Nat, i ≤ N ∧ t = .int .i64 (i : Int) ∧ idE f i = 0 ∧ Blk wr kb (kC (kn f i)) 158 ∧ Chg w wr []) (fun t _ => (N - intOf t).toNat)
    case atStart => exact ⟨0, Nat.zero_le _, rfl, rfl, K0, C0⟩
    case round =>
      clear K0 C0
      obtain ⟨i, hi, rfl, hE, K, C⟩ := hrel
      by_cases h : i < N
      · have hI : (i : Int) < (N : Int) := by omega
        have hI0 : (0 : Int) ≤ (i : Int) := by omega
        have e1 : IntKind.i64.wrap ((i : Int) + 1) = (i : Int) + 1 := by have := HN.out; rw [IntKind.wrap_i64]; omega
        have HM : Hid _ := mN N i h
        have HI1 : Hid (i + 1 ≤ N) := h
        have HS : Hid (∀ c : Int, ¬ c = 0 → idE f (i + 1) = c → idR f N = c) := fun c hc he => by rw [HR.out, idE_stays f (k := i + 1) (by rw [he]; exact hc) N h, he]
        obtain ⟨g, o, rfl, hg, hF⟩ := HP.out i h
        have hF' := cell_chg hF hg C (by simp)
        clear hF hg h hi
        go_wp2_with fail
        by_cases hb : 1 ≤ f i ∧ f i ≤ 255
        · obtain ⟨d, hd⟩ : ∃ d : Nat, f i = (d : Int) := ⟨(f i).toNat, by omega⟩
          have hb2 : 1 ≤ d ∧ d ≤ 255 := by omega
          cases hk : kn f i d
          · have HE : Hid (idE f (i + 1) = 0) := idE_ok hE hb hd hk
            have HU : Hid (kup (kn f i) d = kn f (i + 1)) := kn_s f i d hd
            rw [hd] at hF'
            rw [hd]
            refine (take_ok kb d hb2 (kn f i) hk wr K).mono ?_
            rintro e w1 ⟨rfl, K1, k⟩
            rw [HU.out] at K1
            replace C := C.new k HK.out
            clear k K HU hk hb hb2 hd hE
            go_wp2_with fail
            go_roundw
            case rel => exact ⟨i + 1, HI1.out, by go_num, HE.out, K1, C⟩
            case measure => exact HM.out
          · have HE : Hid (idR f N = 5) := HS.out 5 (by omega) (idE_twice hE hb hd hk)
            rw [hd] at hF'
            rw [hd]
            refine (take_twice kb d hb2 (kn f i) hk wr K).mono ?_
            rintro e w1 ⟨rfl, rfl⟩
            clear hk hb hb2 hd hE
            go_wp2_with fail
            go_ret
            rw [HE.out]
            exact ⟨rfl, C⟩
        · have HE : Hid (idR f N = 4) := HS.out 4 (by omega) (idE_bad hE hb)
          refine (take_bad kb (f i) hb wr).mono ?_
          rintro e w1 ⟨rfl, rfl⟩
          clear hb hE
          go_wp2_with fail
          go_ret
          rw [HE.out]
          exact ⟨rfl, C⟩
      · obtain rfl : i = N := by omega
        have hI : ¬ (i : Int) < (i : Int) := by omega
        go_wp2_with fail
        go_ret
        rw [HR.out, hE]
        exact ⟨rfl, C⟩
set_option maxHeartbeats 8000000 in
set_option maxRecDepth 100000 in
theorem checkShares_s (v : Value) (N : Nat) (f y : Nat → Int) (hN : N ≤ 4611686018427387904) (w : World) (hL : Hl w v N f y) :
    Calls Tryz.prog 71 #[v] w fun e w' => e = .returned (.int .i64 (idR f N)) ∧ Chg w w' [] := by
  obtain ⟨p, cp, rfl, hp⟩ := hL.1.form
  clear hL
  by_cases h0 : N = 0
  · subst h0
    go_enter Tryz.func71, Tryz.ntmps71
    go_wp2_with fail
    go_ret
    exact ⟨rfl, Chg.refl w []⟩
  · have hz : ¬ (N : Int) = 0 := by omega
    have hzz : ((N : Int) == 0) = false := by simp; omega
    have HR : Hid (idR f N = idE f N) := by show idR f N = idE f N; unfold idR; rw [if_neg h0]
    have HP : Hid (∀ i, i < N → ∃ g o, p = some ⟨g, o, none⟩ ∧ g < w.heap.size ∧ w.rangeAt g (o + i * 33) (hF f y i)) := hp
    have HN : Hid (N ≤ 4611686018427387904) := hN
    have K0 : Blk (w.alloc (.cells Tryz.zeroCells158 158)) w.heap.size (kC (kn f 0)) 158 := (Blk.new w _ _).to (by rw [kC_zero, kn_0])
    have C0 : Chg w (w.alloc (.cells Tryz.zeroCells158 158)) [] := (Chg.refl w []).alloc _
    clear hp hN h0
    go_enter Tryz.func71, Tryz.ntmps71
    go_wp2_with fail
    generalize w.alloc (.cells Tryz.zeroCells158 158) = v0 at *
    obtain ⟨kb, hkb⟩ : ∃ b, w.heap.size = b := ⟨_, rfl⟩
    have HK : Hid (w.heap.size ≤ kb) := by show w.heap.size ≤ kb; omega
    rw [hkb] at K0
    rw [hkb]
    clear hkb
    go_loopw [12] (fun t wr => ∃ i : Nat, i ≤ N ∧ t = .int .i64 (i : Int) ∧ idE f i = 0 ∧ Blk wr kb (kC (kn f i)) 158 ∧ Chg w wr []) (fun t _ => (N - intOf t).toNat)
    case atStart => exact ⟨0, Nat.zero_le _, rfl, rfl, K0, C0⟩
    case round =>
      clear K0 C0
      obtain ⟨i, hi, rfl, hE, K, C⟩ := hrel
      by_cases h : i < N
      · have hI : (i : Int) < (N : Int) := by omega
        have hI0 : (0 : Int) ≤ (i : Int) := by omega
        have e1 : IntKind.i64.wrap ((i : Int) + 1) = (i : Int) + 1 := by have := HN.out; rw [IntKind.wrap_i64]; omega
        have HM : Hid _ := mN N i h
        have HI1 : Hid (i + 1 ≤ N) := h
        have HS : Hid (∀ c : Int, ¬ c = 0 → idE f (i + 1) = c → idR f N = c) := fun c hc he => by rw [HR.out, idE_stays f (k := i + 1) (by rw [he]; exact hc) N h, he]
        obtain ⟨g, o, rfl, hg, hF⟩ := HP.out i h
        have hF' : wr.rangeAt g (o + i * 33) (.int .i64 (f i) :: feL (y i)) := rangeAt_chg hF hg C (by simp)
        clear hF hg h hi
        obtain ⟨fi, hfi⟩ : ∃ d, f i = d := ⟨_, rfl⟩
        rw [hfi] at hF'
        have HC : Hid (w.heap.size ≤ wr.heap.size) := C.size
        have HKL : Hid (kb < wr.heap.size) := K.lt
        go_wp2_with (first
          | (refine load_sh rfl _ rfl g (o + i * 33) fi (y i) rfl hF' ?_)
          | (refine alloc_w rfl 96 rfl (.agg zSh) zeroSh zSh rfl ?_; intro sb w1 hsb S0 k1)
          | (refine store_w S0 rfl 96 _ _ (shC fi (y i)) rfl rfl rfl shInfo rfl (shC_one _ _) ?_; intro wq S k2; have S1 := sh_id S))
        have K1 := (K.chg k1 (by simp)).chg k2 (by have := HKL.out; simp; omega)
        have C1 := (C.trans1 k1).new k2 (by have := HC.out; omega)
        clear K C S0 S S1 k1 k2 hsb hF'
        subst hfi
        by_cases hb : 1 ≤ f i ∧ f i ≤ 255
        · obtain ⟨d, hd⟩ : ∃ d : Nat, f i = (d : Int) := ⟨(f i).toNat, by omega⟩
          have hb2 : 1 ≤ d ∧ d ≤ 255 := by omega
          cases hk : kn f i d
          · have HE : Hid (idE f (i + 1) = 0) := idE_ok hE hb hd hk
            have HU : Hid (kup (kn f i) d = kn f (i + 1)) := kn_s f i d hd
            rw [hd]
            refine (take_ok kb d hb2 (kn f i) hk wq K1).mono ?_
            rintro e w1 ⟨rfl, K2, k⟩
            rw [HU.out] at K2
            replace C1 := C1.new k HK.out
            clear k K1 HU hk hb hb2 hd hE
            go_wp2_with fail
            go_roundw
            case rel => exact ⟨i + 1, HI1.out, by go_num, HE.out, K2, C1⟩
            case measure => exact HM.out
          · have HE : Hid (idR f N = 5) := HS.out 5 (by omega) (idE_twice hE hb hd hk)
            rw [hd]
            refine (take_twice kb d hb2 (kn f i) hk wq K1).mono ?_
            rintro e w1 ⟨rfl, rfl⟩
            clear hk hb hb2 hd hE
            go_wp2_with fail
            go_ret
            rw [HE.out]
            exact ⟨rfl, C1⟩
        · have HE : Hid (idR f N = 4) := HS.out 4 (by omega) (idE_bad hE hb)
          refine (take_bad kb (f i) hb wq).mono ?_
          rintro e w1 ⟨rfl, rfl⟩
          clear hb hE
          go_wp2_with fail
          go_ret
          rw [HE.out]
          exact ⟨rfl, C1⟩
      · obtain rfl : i = N := by omega
        have hI : ¬ (i : Int) < (i : Int) := by omega
        go_wp2_with fail
        go_ret
        rw [HR.out, hE]
        exact ⟨rfl, C⟩
end Go.Proofs.YtoafcaieifjoiaaGreat

/- A polynomial's value, from the highest coefficient down. -/
namespace Go.Proofs.YtoafcaieifjoiaaGreat
open Go.RowKit N

/-- The value at x of the m coefficients from place k on. -/
def ev (f : Nat → Nat) (x : Int) : Nat → Nat → Int
  | _, 0 => 0
  | k, m + 1 => ma (ev f x (k + 1) m) x ((f k : Nat) : Int)
theorem ev_rl (f : Nat → Nat) (x : Int) : ∀ m k, RL (ev f x k m)
  | 0, _ => ⟨by unfold ev; decide, by unfold ev; exact L_posI⟩
  | m + 1, k => rl_mod _
where L_posI : (0 : Int) < L := by unfold L; decide
theorem ev_congr {f g : Nat → Nat} {x : Int} : ∀ {m k : Nat}, (∀ i, k ≤ i → i < k + m → f i = g i) → ev f x k m = ev g x k m
  | 0, _, _ => rfl
  | m + 1, k, h => by unfold ev; rw [ev_congr (m := m) (k := k + 1) (fun i h1 h2 => h i (by omega) (by omega)), h k (by omega) (by omega)]
end Go.Proofs.YtoafcaieifjoiaaGreat

/- slices.Backward over scalars; shamir.Eval. -/
namespace Go.Proofs.YtoafcaieifjoiaaGreat
open Go.RowKit Go.Shelf N

attribute [local go_sem] Oper.semAt_some

/-! ### Rows inside a fence -/
theorem in_val {F : Fence} {n : Nat} {P : Program} {ops : Array Oper} {rest : List Oper} {o : Oper} {a : Act} {w : World} {Q : Exit → Act → World → Prop} (hg : o.guard = none) (hab : o.about P w a.eval = none) (hdf : ∀ c, o.op ≠ .defer c) (v : Value) (w' : World)
    (hr : (execOp a.eval o).run P w = .ok (.value v) w') (h : wpListIn F n P ops Q rest (a.put o.dst v) w') : wpListIn F n P ops Q (o :: rest) a w := by
  refine wpListIn_plain hg fun K hK => ?_
  unfold Oper.wpIn
  refine ⟨(by rw [hab]; intro f hf; cases hf), ?_⟩
  rw [Oper.semAt_plain F _ _ hdf, hr, Oper.uponIn_value]
  exact hK _ _ h
theorem in_skip {F : Fence} {n : Nat} {P : Program} {ops : Array Oper} {rest : List Oper} {o : Oper} {a : Act} {w : World} {Q : Exit → Act → World → Prop} (hg : o.guard = none) (hab : o.about P w a.eval = none) (hdf : ∀ c, o.op ≠ .defer c) (w' : World)
    (hr : (execOp a.eval o).run P w = .ok .skip w') (h : wpListIn F n P ops Q rest (a.put o.dst undef) w') : wpListIn F n P ops Q (o :: rest) a w := by
  refine wpListIn_plain hg fun K hK => ?_
  unfold Oper.wpIn
  refine ⟨(by rw [hab]; intro f hf; cases hf), ?_⟩
  rw [Oper.semAt_plain F _ _ hdf, hr, Oper.uponIn_skip]
  exact hK _ _ h
theorem in_load_mid {F : Fence} {n : Nat} {P : Program} {ops : Array Oper} {rest : List Oper} {op : Oper} {a : Act} {w : World} {Q : Exit → Act → World → Prop} (hgd : op.guard = none) (ty : TypeId) (x : Operand) (ho : op.op = .load ty x)
    (b o : Nat) (hx : a.eval x = .pointer (some ⟨b, o, none⟩)) (cs : List Value) (d : TypeDesc) (hc : w.rangeAt b o cs)
    (hu : P.underlying ty = some d) (hd : d.isRow = true) (hi : (P.info? ty).map (·.size) = some cs.length)
    (h : wpListIn F n P ops Q rest (a.put op.dst (.agg cs.toArray)) w) : wpListIn F n P ops Q (op :: rest) a w := by
  refine in_val hgd (by unfold Oper.about; rw [ho]) (by rw [ho]; intro c hc; cases hc) (.agg cs.toArray) w ?_ h
  unfold execOp
  simp only [ho, hx, Instr.loadAt, Instr.sureAddr, Sem.run_bind, Sem.run_pure, Result.andThen_ok, run_loadVar_mid w b o ty cs d hc hu hd hi]
theorem in_load_row {F : Fence} {n : Nat} {P : Program} {ops : Array Oper} {rest : List Oper} {op : Oper} {a : Act} {w : World} {Q : Exit → Act → World → Prop} {g : Nat} {cs : Array Value} {t : TypeId} (hg : Blk w g cs t) (hgd : op.guard = none) (ty : TypeId) (x : Operand) (ho : op.op = .load ty x)
    (hx : a.eval x = .pointer (some ⟨g, 0, none⟩)) {d : TypeDesc} (hu : P.underlying ty = some d) (hd : (match d with | .struct _ | .array _ _ => true | _ => false) = true) (hi : (P.info? ty).map (·.size) = some cs.size)
    (h : wpListIn F n P ops Q rest (a.put op.dst (.agg cs)) w) : wpListIn F n P ops Q (op :: rest) a w := by
  refine in_val hgd (by unfold Oper.about; rw [ho]) (by rw [ho]; intro c hc; cases hc) (.agg cs) w ?_ h
  unfold execOp
  simp only [ho, hx, Instr.loadAt, Instr.sureAddr, Sem.run_bind, Sem.run_pure, Result.andThen_ok, run_loadVar_row w g t ty cs (0, 0) d hg hu hd hi]
theorem in_store_row {F : Fence} {n : Nat} {P : Program} {ops : Array Oper} {rest : List Oper} {op : Oper} {a : Act} {w : World} {Q : Exit → Act → World → Prop} {g : Nat} {old : Array Value} {t : TypeId} (hg : Blk w g old t) (hgd : op.guard = none) (ty : TypeId) (x y : Operand) (ho : op.op = .store ty x y) (cells : Array Value)
    (hx : a.eval x = .pointer (some ⟨g, 0, none⟩)) (hy : a.eval y = .agg cells) (hi : (P.info? ty).map (·.size) = some cells.size)
    (hold : old.size = cells.size) (h1 : cells.all (·.oneCell') = true)
    (h : wpListIn F n P ops Q rest (a.put op.dst undef) (w.setRow g cells)) : wpListIn F n P ops Q (op :: rest) a w := by
  refine in_skip hgd (by unfold Oper.about; rw [ho]) (by rw [ho]; intro c hc; cases hc) (w.setRow g cells) ?_ h
  unfold execOp
  simp only [ho, hx, hy, Instr.storeAt, Instr.sureAddr, Sem.run_bind, Sem.run_pure, Result.andThen_ok, run_storeVar_row w g t ty old cells hg hi hold h1]

/-! ### The iterator -/
/-- A place and a number of 256 bits. -/
abbrev Bk := Nat × { n : Nat // n < 115792089237316195423570985008687907853269984665640564039457584007913129639936 }
def bkE (x : Bk) : Array Value := #[.int .i64 (x.1 : Int), fe ((x.2.1 : Nat) : Int)]
/-- The first k from behind. -/
def bkL (f : Nat → Bk) (N k : Nat) : List Bk := (List.range k).map fun j => f (N - 1 - j)
theorem bkL_s (f : Nat → Bk) (N k : Nat) : bkL f N (k + 1) = bkL f N k ++ [f (N - 1 - k)] := by simp [bkL, List.range_succ]
theorem bkL_len (f : Nat → Bk) (N k : Nat) : (bkL f N k).length = k := by simp [bkL]
theorem below_range {n₀ : Nat} {w w' : World} {g o : Nat} {cs : List Value} (h : w.rangeAt g o cs) (hb : Below n₀ w w') (hg : g < n₀) : w'.rangeAt g o cs := fun j v hv => by
  rw [← h j v hv]
  exact hb.cell (p := ⟨g, o + j, none⟩) hg

/-- What a round keeps: what lay below n₀, and the slice's own box. -/
def Kb (n₀ Bs : Nat) (W W' : World) : Prop := Below n₀ W W' ∧ W'.heap[Bs]? = W.heap[Bs]?
theorem Kb.t {n₀ Bs : Nat} {A B C : World} (h : Kb n₀ Bs A B) (k : Kb n₀ Bs B C) : Kb n₀ Bs A C := ⟨h.1.trans k.1, k.2.trans h.2⟩
theorem Kb.cell {n₀ Bs : Nat} {A B : World} (h : Kb n₀ Bs A B) : B.cell? ⟨Bs, 0, none⟩ = A.cell? ⟨Bs, 0, none⟩ := by simp only [World.cell?, h.2]

set_option maxRecDepth 100000 in
set_option maxHeartbeats 8000000 in
theorem back1_in (n l Bs n₀ N cap : Nat) (p : Option Addr) (f : Nat → Bk) (hfi : ∀ j, (f j).1 = j) (hN : N ≤ 4611686018427387904) (J Jx : List Bk → World → Prop)
    (hY : ∀ pre x W, J pre W → pre.length < N → YieldAt Fence.wide (n - 1) Tryz.prog l (bkE x) W fun e W' =>
      (e = .returned (.bool true) ∧ J (pre ++ [x]) W' ∧ Kb n₀ Bs W W') ∨ (e = .returned (.bool false) ∧ Jx (pre ++ [x]) W'))
    (W : World) (hBs : W.cell? ⟨Bs, 0, none⟩ = some (.slice p N cap)) (hp : ∀ j, j < N → ∃ g o, p = some ⟨g, o, none⟩ ∧ g < n₀ ∧ W.rangeAt g (o + j * 32) (feL (((f j).2.1 : Nat) : Int))) (h0 : J [] W) :
    CallsIn Fence.wide n Tryz.prog 95 #[.func (.yield l) #[] #[], .pointer (some ⟨Bs, 0, none⟩)] W fun e W' => (∃ v, e = .returned v) ∧
      ((∃ ys, ys = bkL f N N ∧ J ys W') ∨ (∃ pre, True ∧ Jx pre W')) := by
  have HP : Hid (∀ j, j < N → ∃ g o, p = some ⟨g, o, none⟩ ∧ g < n₀ ∧ W.rangeAt g (o + j * 32) (feL (((f j).2.1 : Nat) : Int))) := hp
  have HN : Hid (N ≤ 4611686018427387904) := hN
  have e0 : IntKind.i64.wrap ((N : Int) - 1) = (N : Int) - 1 := by rw [IntKind.wrap_i64]; omega
  clear hp hN
  refine callsIn_of_wp Tryz.func95 rfl trivial ?_ rfl
  simp only [Tryz.ntmps95, List.size_toArray, List.length_cons, List.length_nil, Nat.reduceAdd, Nat.reduceSub, Array.replicate_succ, Array.replicate_zero, List.push_toArray, List.append_toArray, List.nil_append, List.cons_append]
  gi_wp2
  gi_loopw [3] (fun t wr => ∃ q k : Nat, q + k = N ∧ t = .int .i64 ((q : Int) - 1) ∧ J (bkL f N k) wr ∧ Kb n₀ Bs W wr) (fun t _ => (intOf t + 1).toNat)
  case atStart => exact ⟨N, 0, by omega, rfl, h0, Below.refl _ _, rfl⟩
  case round =>
    obtain ⟨q, k, hq, rfl, hJs, hnx⟩ := hrel
    have hbx : wr.cell? ⟨Bs, 0, none⟩ = some (.slice p N cap) := hnx.cell.trans hBs
    rcases q with _ | q
    · obtain rfl : k = N := by omega
      have hI : ¬ (0 : Int) ≤ ((0 : Nat) : Int) - 1 := by omega
      gi_wp2
      go_end0
      exact ⟨⟨_, rfl⟩, .inl hJs⟩
    · have hqN : q < N := by omega
      obtain ⟨g, o, rfl, hg, hF⟩ := HP.out q hqN
      have hF' := below_range hF hnx.1 hg
      have eq1 : ((q + 1 : Nat) : Int) - 1 = (q : Int) := by omega
      have hx : f (N - 1 - k) = f q := by rw [show N - 1 - k = q by omega]
      obtain ⟨fn, tmps, assign, body, hy, hR⟩ := hY _ (f q) wr hJs (by rw [bkL_len]; omega)
      simp only [bkE, hfi] at hy
      rw [eq1]
      have hI : (0 : Int) ≤ (q : Int) := by omega
      have hI2 : (q : Int) < (N : Int) := by omega
      have e1 : IntKind.i64.wrap ((q : Int) - 1) = (q : Int) - 1 := by have := HN.out; rw [IntKind.wrap_i64]; omega
      gi_wp2_with (refine in_load_mid rfl 24 _ rfl g (o + q * 32) rfl (feL (((f q).2.1 : Nat) : Int)) _ hF' Tryz.underlying24 rfl feInfo ?_)
      refine ⟨fun h => (by cases h), hR.mono ?_⟩
      rintro e W3 (⟨rfl, hJ3, hk3⟩ | ⟨rfl, hJx3⟩)
      · gi_wp2
        go_roundw
        case rel => exact ⟨q, k + 1, by omega, rfl, by rw [bkL_s, hx]; exact hJ3, hnx.t hk3⟩
        case measure => simp [intOf] <;> omega
      · gi_wp2
        refine bodyPost_ret (results_none rfl _ _ _) rfl ?_
        exact ⟨⟨_, rfl⟩, .inr ⟨_, trivial, hJx3⟩⟩

set_option maxRecDepth 100000 in
set_option maxHeartbeats 1000000 in
theorem back_in (n : Nat) (a : Option Addr) (len cap : Nat) (w : World) :
    CallsIn Fence.wide n Tryz.prog 46 #[.slice a len cap] w fun e w' => e = .returned (.func (.func 95) #[] #[.pointer (some ⟨w.heap.size, 0, none⟩)]) ∧ w' = w.alloc (.cells #[.slice a len cap] 22) := by
  refine callsIn_of_wp Tryz.func46 rfl trivial ?_ rfl
  simp only [Tryz.ntmps46, List.size_toArray, List.length_cons, List.length_nil, Nat.reduceAdd, Nat.reduceSub, Array.replicate_succ, Array.replicate_zero, List.push_toArray, List.append_toArray, List.nil_append, List.cons_append]
  gi_wp2
  go_ret
  exact ⟨rfl, rfl⟩
theorem back_stops (n Bs n₀ N cap : Nat) (p : Option Addr) (f : Nat → Bk) (hfi : ∀ j, (f j).1 = j) (hN : N ≤ 4611686018427387904) (w : World) (hBs : Bs < w.heap.size) (hn₀ : n₀ ≤ w.heap.size)
    (hc : w.cell? ⟨Bs, 0, none⟩ = some (.slice p N cap)) (hp : ∀ j, j < N → ∃ g o, p = some ⟨g, o, none⟩ ∧ g < n₀ ∧ w.rangeAt g (o + j * 32) (feL (((f j).2.1 : Nat) : Int))) :
    SeqStopsK Fence.wide n Tryz.prog 95 #[.pointer (some ⟨Bs, 0, none⟩)] bkE (Kb n₀ Bs) (fun ys => ys = bkL f N N) (fun _ => True) N w := fun l J Jx W hW _ _ hY h0 => by
  refine back1_in n l Bs n₀ N cap p f hfi hN J Jx hY W ((hW.cell (p := ⟨Bs, 0, none⟩) hBs).trans hc) (fun j hj => ?_) h0
  obtain ⟨g, o, h1, h2, h3⟩ := hp j hj
  exact ⟨g, o, h1, h2, below_range h3 hW (by omega)⟩

theorem Chg.gb {a b : World} (h : Chg a b []) : a.grownBy b none := ⟨h.os, h.tape, h.output, h.size, fun i hi _ => h.block i hi (by simp)⟩
theorem Chg.keeps {a b : World} (h : Chg a b []) (B : Nat) : KeepsFrom B a b := KeepsFrom.of_grownBy h.gb (fun j e => by cases e)
theorem Chg.kb {a b : World} (h : Chg a b []) {n₀ Bs : Nat} (hn : n₀ ≤ a.heap.size) (hb : Bs < a.heap.size) : Kb n₀ Bs a b := ⟨h.below.mono hn, h.block Bs hb (by simp)⟩
theorem Chg.keeps1 {a b : World} {z : Nat} (h : Chg a b [z]) {B : Nat} (hz : z < B) : KeepsFrom B a b :=
  KeepsFrom.of_grownBy (row := some z) ⟨h.os, h.tape, h.output, h.size, fun i hi hr => h.block i hi (by simpa using hr)⟩ (fun j e => by cases e; exact hz)
theorem Chg.kb1 {a b : World} {z : Nat} (h : Chg a b [z]) {n₀ Bs : Nat} (hn : n₀ ≤ a.heap.size) (hb : Bs < a.heap.size) (h1 : n₀ ≤ z) (h2 : ¬ Bs = z) : Kb n₀ Bs a b :=
  ⟨⟨h.os, h.tape, h.output, h.size, fun i hi => h.block i (by omega) (by simp; omega)⟩, h.block Bs hb (by simpa using h2)⟩
/-! ### Eval -/
def hvL (x : Int) (l : List Bk) : Int := l.foldl (fun y c => ma y x ((c.2.1 : Nat) : Int)) 0
theorem hvL_s (x : Int) (l : List Bk) (c : Bk) : hvL x (l ++ [c]) = ma (hvL x l) x ((c.2.1 : Nat) : Int) := by simp [hvL]
theorem hvL_rl (x : Int) (l : List Bk) : RL (hvL x l) := by
  rcases List.eq_nil_or_concat l with rfl | ⟨l', c, rfl⟩
  · show RL 0; unfold RL; decide
  · rw [List.concat_eq_append, hvL_s]; exact rl_mod _
def mkB (f : Nat → Nat) (hf : ∀ i, f i < 115792089237316195423570985008687907853269984665640564039457584007913129639936) : Nat → Bk := fun j => (j, ⟨f j, hf j⟩)
theorem hvL_ev (x : Int) (f : Nat → Nat) (hf : ∀ i, f i < 115792089237316195423570985008687907853269984665640564039457584007913129639936) (N : Nat) : ∀ k, k ≤ N → hvL x (bkL (mkB f hf) N k) = ev f x (N - k) k
  | 0, _ => rfl
  | k + 1, h => by
    rw [bkL_s, hvL_s, hvL_ev x f hf N k (by omega)]
    show ma _ x ((f (N - 1 - k) : Nat) : Int) = ma (ev f x (N - (k + 1) + 1) k) x ((f (N - (k + 1)) : Nat) : Int)
    rw [show N - (k + 1) + 1 = N - k by omega, show N - 1 - k = N - (k + 1) by omega]
theorem blk_own {β : Type} (B b : Nat) (cs : β → Array Value) (T : TypeId) : OwnFrom B (fun (s : β) W => Blk W b (cs s) T) := fun s W W' row h hg hr => by
  refine h.grown hg ?_
  intro he
  obtain ⟨_, o, ho, hc⟩ := hr b he.symm
  unfold Blk at h
  rw [h] at ho
  cases ho
  cases hc
set_option maxRecDepth 100000 in
set_option maxHeartbeats 8000000 in
theorem Eval_0 (p : Option Addr) (cp N : Nat) (f : Nat → Nat) (hf : ∀ i, f i < 115792089237316195423570985008687907853269984665640564039457584007913129639936) (hN : N ≤ 4611686018427387904) (x : Int) (rx : R256 x) (w : World)
    (hp : ∀ i, i < N → ∃ g o, p = some ⟨g, o, none⟩ ∧ g < w.heap.size ∧ w.rangeAt g (o + i * 32) (feL (f i : Nat))) :
    Calls Tryz.prog 14 #[.slice p N cp, fe x] w fun e w' => e = .returned (fe (ev f x 0 N)) ∧ Chg w w' [] := by
  refine (callsIn_wide (n := 6)).1 ?_
  refine callsIn_of_wp_marks Tryz.func14 rfl trivial ?_ rfl
  simp only [Tryz.ntmps14, List.size_toArray, List.length_cons, List.length_nil, Nat.reduceAdd, Nat.reduceSub, Array.replicate_succ, Array.replicate_zero, List.push_toArray, List.append_toArray, List.nil_append, List.cons_append]
  have B0 : Blk ((((w.alloc (.cells (feC x) 24)).alloc (.cells z32 24)).alloc (.cells z32 24)).alloc (.cells #[.slice p N cp] 22)) w.heap.size (feC x) 24 := (((Blk.new w _ _).alloc _).alloc _).alloc _
  have B1 : Blk ((((w.alloc (.cells (feC x) 24)).alloc (.cells z32 24)).alloc (.cells z32 24)).alloc (.cells #[.slice p N cp] 22)) (w.heap.size + 1) z32 24 := by have h := ((Blk.new (w.alloc (.cells (feC x) 24)) z32 24).alloc (.cells z32 24)).alloc (.cells #[.slice p N cp] 22); simpa using h
  have B2 : Blk ((((w.alloc (.cells (feC x) 24)).alloc (.cells z32 24)).alloc (.cells z32 24)).alloc (.cells #[.slice p N cp] 22)) (w.heap.size + 1 + 1) z32 24 := by have h := (Blk.new ((w.alloc (.cells (feC x) 24)).alloc (.cells z32 24)) z32 24).alloc (.cells #[.slice p N cp] 22); simpa using h
  have B3 : Blk ((((w.alloc (.cells (feC x) 24)).alloc (.cells z32 24)).alloc (.cells z32 24)).alloc (.cells #[.slice p N cp] 22)) (w.heap.size + 1 + 1 + 1) #[.slice p N cp] 22 := by have h := Blk.new (((w.alloc (.cells (feC x) 24)).alloc (.cells z32 24)).alloc (.cells z32 24)) #[.slice p N cp] 22; simpa using h
  have hC : Chg w ((((w.alloc (.cells (feC x) 24)).alloc (.cells z32 24)).alloc (.cells z32 24)).alloc (.cells #[.slice p N cp] 22)) [] := ((((Chg.refl w []).alloc _).alloc _).alloc _).alloc _
  have hS : ((((w.alloc (.cells (feC x) 24)).alloc (.cells z32 24)).alloc (.cells z32 24)).alloc (.cells #[.slice p N cp] 22)).heap.size = w.heap.size + 4 := by simp
  gi_wp2
  refine ⟨trivial, (back_in _ _ _ _ _).mono ?_⟩
  rintro e w' ⟨rfl, rfl⟩
  gi_wp2
  try (change Code.wpIn _ _ _ _ _ _ ((((w.alloc (.cells (feC x) 24)).alloc (.cells z32 24)).alloc (.cells z32 24)).alloc (.cells #[.slice p N cp] 22)))
  generalize ((((w.alloc (.cells (feC x) 24)).alloc (.cells z32 24)).alloc (.cells z32 24)).alloc (.cells #[.slice p N cp] 22)) = W0 at *
  have hB0 : Below w.heap.size w W0 := hC.below
  refine wpIn_rangeFunc_ownH rfl (by omega) (gf := 95) (lb := #[.pointer (some ⟨w.heap.size + 1 + 1 + 1, 0, none⟩)]) rfl trivial (enters_of Tryz.func95 (by kernel_rfl) rfl)
    (back_stops _ (w.heap.size + 1 + 1 + 1) w.heap.size N cp p (mkB f hf) (fun _ => rfl) hN W0 (by omega) (by omega) (by rw [B3.cell]; rfl) (fun j hj => by obtain ⟨g, o, h1, h2, h3⟩ := hp j hj; exact ⟨g, o, h1, h2, below_range h3 hB0 h2⟩))
    Kb.t (fun W l o o' hl h h1 h2 => ⟨belowK_b (w := W0) (by omega) W l o o' hl h h1 h2, World.putObj_heap_other (by omega)⟩) (Below.refl _ _) (fun _ => rfl)
    (fun pre W => (((Blk W w.heap.size (feC x) 24 ∧ Blk W (w.heap.size + 1 + 1) (feC (hvL x pre)) 24) ∧ Blk W (w.heap.size + 1) z32 24) ∧ Blk W (w.heap.size + 1 + 1 + 1) #[.slice p N cp] 22) ∧ Below w.heap.size w W)
    (fun _ _ _ => False)
    (OwnFrom.and (OwnFrom.and (OwnFrom.and (OwnFrom.and (blk_own _ _ (fun _ => feC x) _) (blk_own _ _ (fun pre => feC (hvL x pre)) _)) (blk_own _ _ (fun _ => z32) _)) (blk_own _ _ (fun _ => #[.slice p N cp]) _)) (ownFrom_below (Nat.le_refl _) (by omega)))
    (fun _ _ _ _ _ hs _ _ => hs)
    ⟨⟨⟨⟨B0, by rw [z32_fe] at B2; exact B2⟩, B1⟩, B3⟩, hB0⟩
    (fun c a' W => ∃ Bx, w.heap.size + 1 + 1 < Bx ∧ Blk W Bx (feC ((c.2.1 : Nat) : Int)) 24 ∧ a' = { tmps := #[.slice p N cp, fe x, undef, .pointer (some ⟨w.heap.size, 0, none⟩), .pointer (some ⟨w.heap.size + 1, 0, none⟩), .pointer (some ⟨w.heap.size + 1 + 1, 0, none⟩), undef, .pointer (some ⟨Bx, 0, none⟩), .slice p N cp, .func (.func 95) #[] #[.pointer (some ⟨w.heap.size + 1 + 1 + 1, 0, none⟩)], .int .i64 (c.1 : Int), fe ((c.2.1 : Nat) : Int), undef, undef, undef, undef, undef], defers := [] })
    (fun c a' _ X Y row hs hg hr => by obtain ⟨Bx, h1, h2, h3⟩ := hs; exact ⟨Bx, h1, blk_own _ Bx (fun (_ : Unit) => feC ((c.2.1 : Nat) : Int)) _ () X Y row h2 hg hr, h3⟩)
    ?assign ?body ?done ?stop
  case assign =>
    rintro l pre c W K ⟨⟨⟨⟨b0, b2⟩, b1⟩, b3⟩, hB⟩ hK
    have bn : Blk (W.alloc (.cells z32 24)) W.heap.size z32 24 := Blk.new W _ _
    have hk : Chg W ((W.alloc (.cells z32 24)).setRow W.heap.size (feC ((c.2.1 : Nat) : Int))) [] := ((Chg.refl W []).alloc _).setRowNew (Nat.le_refl _) _
    have hl := b3.lt
    unfold bkE
    gi_wp2_with (refine in_store_row bn rfl 24 _ _ rfl (feC ((c.2.1 : Nat) : Int)) rfl rfl feInfo rfl (feC_one _) ?_)
    exact hK _ _ (hk.keeps _) (hk.kb hB.size hl) ⟨⟨⟨⟨b0.chg hk (by simp), b2.chg hk (by simp)⟩, b1.chg hk (by simp)⟩, b3.chg hk (by simp)⟩, hB.trans (hk.below.mono hB.size)⟩ ⟨W.heap.size, by omega, bn.setRow _, rfl⟩
  case body =>
    rintro l pre c a' W hl ⟨r, hr⟩ ⟨⟨⟨⟨b0, b2⟩, b1⟩, b3⟩, hB⟩ ⟨Bx, hBx, bX, rfl⟩ hlt
    have rc : R256 ((c.2.1 : Nat) : Int) := by have := c.2.2; exact ⟨by omega, by omega⟩
    have rv : R256 (hvL x pre) := r256_rl (hvL_rl x pre)
    gi_wp2_with (first
      | (refine in_load_row b2 rfl 24 _ rfl rfl Tryz.underlying24 rfl feInfo ?_)
      | (refine in_load_row b0 rfl 24 _ rfl rfl Tryz.underlying24 rfl feInfo ?_)
      | (refine in_load_row bX rfl 24 _ rfl rfl Tryz.underlying24 rfl feInfo ?_))
    refine ⟨trivial, (CallsIn.inRound l (callsIn_wide.2 (MulAdd_o _ _ _ rv rx rc W))).mono ?_⟩
    rintro e W1 ⟨rfl, k⟩
    have s2 := b2.chg k (by simp)
    have hl2 := b3.lt
    have hl3 := (b3.chg k (by simp)).lt
    have q : Chg W1 (W1.setRow (w.heap.size + 1 + 1) (feC (ma (hvL x pre) x ((c.2.1 : Nat) : Int)))) [w.heap.size + 1 + 1] := Chg.of (gb_setRow (gb_refl _ _) _)
    gi_wp2_with (refine in_store_row s2 rfl 24 _ _ rfl (feC (ma (hvL x pre) x ((c.2.1 : Nat) : Int))) rfl rfl feInfo rfl (feC_one _) ?_)
    refine ⟨(k.keeps _).trans (q.keeps1 (by omega)), (k.kb hB.size hl2).t (q.kb1 (by omega) hl3 (by omega) (by omega)), ?_⟩
    simp only [hvL_s]
    exact ⟨⟨⟨⟨(b0.chg k (by simp)).chg q (by simp; omega), s2.setRow _⟩, (b1.chg k (by simp)).chg q (by simp)⟩, (b3.chg k (by simp)).chg q (by simp)⟩, (hB.trans (k.below.mono hB.size)).trans (q.kb1 (Bs := w.heap.size + 1 + 1 + 1) (by omega) hl3 (by omega) (by omega)).1⟩
  case done =>
    rintro D ys W hD rfl ⟨⟨⟨⟨b0, b2⟩, b1⟩, b3⟩, hB⟩ hK
    rw [hvL_ev x f hf N N (Nat.le_refl _), Nat.sub_self] at b2
    gi_wp2_with (first
      | (refine in_load_row b2 rfl 24 _ rfl rfl Tryz.underlying24 rfl feInfo ?_)
      | (refine in_store_row b1 rfl 24 _ _ rfl (feC (ev f x 0 N)) rfl rfl feInfo rfl (feC_one _) ?_))
    have hK' : (W.setRow (w.heap.size + 1) (feC (ev f x 0 N))).heap[D]? = some (.deferred (some [])) := by rw [setRow_other _ _ _ _ (by omega)]; exact hK
    refine ⟨by simp, .inl ⟨_, _, rfl, run_takeDeferred hK', ?_⟩⟩
    have bR : Blk ((W.setRow (w.heap.size + 1) (feC (ev f x 0 N))).putObj D (.deferred none)) (w.heap.size + 1) (feC (ev f x 0 N)) 24 := by
      have h := b1.setRow (feC (ev f x 0 N))
      unfold Blk at h ⊢
      rw [World.putObj_heap_other (by omega)]
      exact h
    have hc1 : Chg w (W.setRow (w.heap.size + 1) (feC (ev f x 0 N))) [] := (Chg.ofBelow hB []).setRowNew (by omega) _
    have hc2 : Chg w ((W.setRow (w.heap.size + 1) (feC (ev f x 0 N))).putObj D (.deferred none)) [] := hc1.new (Chg.of (grownBy_putObj' _ D _)) (by omega)
    exact ⟨_, results_cell_row Tryz.results14 _ _ (w.heap.size + 1) 24 (feC (ev f x 0 N)) (0, 0) _ rfl bR Tryz.underlying24 rfl feInfo, rfl, hc2⟩
  case stop =>
    rintro D c pre W _ _ h _
    exact h.elim
/-- shamir.Eval: a polynomial's value. -/
theorem Eval_s (v : Value) (N : Nat) (f : Nat → Nat) (hN : N ≤ 4611686018427387904) (x : Int) (rx : R256 x) (w : World) (hL : Ls w v N f) :
    Calls Tryz.prog 14 #[v, fe x] w fun e w' => e = .returned (fe (ev f x 0 N)) ∧ Chg w w' [] := by
  have hb := hL.1
  obtain ⟨p, cp, rfl, hp⟩ := hL.range
  have hf : ∀ i, (if i < N then f i else 0) < 115792089237316195423570985008687907853269984665640564039457584007913129639936 := fun i => by
    by_cases h : i < N
    · rw [if_pos h]; exact hb i h
    · rw [if_neg h]; omega
  have q := Eval_0 p cp N (fun i => if i < N then f i else 0) hf hN x rx w (fun i hi => by simp only [if_pos hi]; exact hp i hi)
  rw [ev_congr (f := fun i => if i < N then f i else 0) (g := f) (fun i _ hi => by simp only [Nat.zero_add] at hi; simp only [if_pos hi])] at q
  exact q
end Go.Proofs.YtoafcaieifjoiaaGreat

/- shamir.Split, At. -/
namespace Go.Proofs.YtoafcaieifjoiaaGreat
open Go.RowKit N

/-- What Split answers. -/
def SpP (f : Nat → Nat) (M : Nat) (d : Nat → Int) (N : Nat) (w : World) (e : Ending) (w' : World) : Prop :=
  (¬ idR d N = 0 ∧ e = .returned (.tuple #[.slice none 0 0, .int .i64 (idR d N)])) ∨
  (idR d N = 0 ∧ ∃ g, w.heap.size ≤ g ∧ e = .returned (.tuple #[.slice (some ⟨g, 0, none⟩) N N, .int .i64 0]) ∧ Hb w' g N d (fun i => ev f (d i) 0 M))
theorem idR_zero {d : Nat → Int} {N : Nat} (h : idR d N = 0) : idE d N = 0 ∧ 0 < N := by
  unfold idR at h
  by_cases h0 : N = 0
  · rw [if_pos h0] at h; omega
  · rw [if_neg h0] at h; exact ⟨h, by omega⟩
/-- No more than 255 may be. -/
theorem upto_pigeon : ∀ (m N : Nat) (d : Nat → Nat), (∀ i, i < N → d i < m) → (∀ i j, i < N → j < N → d i = d j → i = j) → N ≤ m
  | 0, N, d, h, _ => by
    rcases Nat.eq_zero_or_pos N with h0 | h0
    · omega
    · have := h 0 h0; omega
  | m + 1, N, d, h, hi => by
    by_cases hx : ∃ i, i < N ∧ d i = m
    · obtain ⟨k, hk, hm⟩ := hx
      have h2 := upto_pigeon m (N - 1) (fun i => d (if i < k then i else i + 1)) (fun i hl => by
        have h3 : (if i < k then i else i + 1) < N := by split <;> omega
        have h4 := h _ h3
        have h5 : d (if i < k then i else i + 1) ≠ m := fun h6 => by
          have := hi _ k h3 hk (by rw [h6, hm])
          split at this <;> omega
        omega) (fun i j hl hl2 he => by
        have := hi (if i < k then i else i + 1) (if j < k then j else j + 1) (by split <;> omega) (by split <;> omega) he
        split at this <;> split at this <;> omega)
      omega
    · have h2 := upto_pigeon m N d (fun i hl => by
        have := h i hl
        have h3 : d i ≠ m := fun h4 => hx ⟨i, hl, h4⟩
        omega) hi
      omega
theorem idE_len {d : Nat → Int} {N : Nat} (h : idE d N = 0) : N ≤ 255 := by
  obtain ⟨h1, h2⟩ := idE_zero h
  refine upto_pigeon 255 N (fun i => (d i).toNat - 1) (fun i hi => by have := h1 i hi; show (d i).toNat - 1 < 255; omega) (fun i j hi hj he => h2 i j hi hj ?_)
  have := h1 i hi
  have := h1 j hj
  replace he : (d i).toNat - 1 = (d j).toNat - 1 := he
  omega
set_option maxHeartbeats 8000000 in
set_option maxRecDepth 100000 in
theorem Split_s (v u : Value) (M : Nat) (f : Nat → Nat) (hM : M ≤ 4611686018427387904) (N : Nat) (d : Nat → Int) (hN : N ≤ 4611686018427387904) (w : World) (hC : Ls w v M f) (hI : Il w u N d) :
    Calls Tryz.prog 11 #[v, u] w fun e w' => SpP f M d N w e w' ∧ Chg w w' [] := by
  have hK := checkIDs_s u N d hN w hI
  obtain ⟨p, cp, rfl, hp⟩ := hI.form
  have HL : Hid (Ls w v M f) := hC
  obtain ⟨pv, cv, rfl, _⟩ := hC.form
  have HP : Hid (∀ i, i < N → ∃ g o, p = some ⟨g, o, none⟩ ∧ g < w.heap.size ∧ w.cell? ⟨g, o + i, none⟩ = some (.int .i64 (d i))) := hp
  have HM : Hid (M ≤ 4611686018427387904) := hM
  clear hC hI hp hN hM
  go_enter Tryz.func11, Tryz.ntmps11
  go_wp2_with fail
  refine hK.mono ?_
  rintro e w1 ⟨rfl, k⟩
  clear hK
  by_cases h0 : idR d N = 0
  · have HZ : Hid (idR d N = 0) := h0
    have HN : Hid (N ≤ 255) := idE_len (idR_zero h0).1
    have HD : Hid (∀ i, i < N → 1 ≤ d i ∧ d i ≤ 255) := (idE_zero (idR_zero h0).1).1
    have HC0 : Hid (w.heap.size ≤ w1.heap.size) := k.size
    rw [h0]
    clear h0
    go_wp2_with (refine make_hb rfl _ _ rfl N (by have := HN.out; omega) rfl rfl ?_; intro g w2 hg B k2)
    replace k := k.trans1 k2
    have HG : Hid (w.heap.size ≤ g) := by have := HC0.out; show w.heap.size ≤ g; omega
    have B1 : Hb w2 g N (fun j => if j < 0 then d j else 0) (fun j => if j < 0 then ev f (d j) 0 M else 0) := B.congr (fun j _ => (if_neg (by omega)).symm) (fun j _ => (if_neg (by omega)).symm)
    clear k2 B hg HC0
    go_loopw [20] (fun t wr => ∃ i : Nat, i ≤ N ∧ t = .int .i64 (i : Int) ∧ Hb wr g N (fun j => if j < i then d j else 0) (fun j => if j < i then ev f (d j) 0 M else 0) ∧ Chg w wr []) (fun t _ => (N - intOf t).toNat)
    case atStart => exact ⟨0, Nat.zero_le _, rfl, B1, k⟩
    case round =>
      clear B1 k
      obtain ⟨i, hi, rfl, B, C⟩ := hrel
      by_cases h : i < N
      · have hI : (i : Int) < (N : Int) := by omega
        have hI0 : (0 : Int) ≤ (i : Int) := by omega
        have e1 : IntKind.i64.wrap ((i : Int) + 1) = (i : Int) + 1 := by have := HN.out; rw [IntKind.wrap_i64]; omega
        have HMs : Hid _ := mN N i h
        have HI1 : Hid (i < N) := h
        obtain ⟨gp, o, rfl, hg, hF⟩ := HP.out i h
        have hF' := cell_chg hF hg C (by simp)
        have hd := HD.out i h
        have HPl : Hid (0 ≤ d i ∧ d i < 9223372036854775808) := by show 0 ≤ d i ∧ d i < 9223372036854775808; omega
        have HX : Hid (R256 (d i)) := by show R256 (d i); unfold R256; omega
        clear hF hg h hi hd
        go_wp2_with fail
        refine (place_s (d i) HPl.out wr).mono ?_
        rintro e w3 ⟨rfl, k3⟩
        replace C := C.trans1 k3
        replace B := B.chg k3 (by simp)
        clear k3
        go_wp2_with fail
        refine (Eval_s _ M f HM.out (d i) HX.out w3 (HL.out.chg0 C)).mono ?_
        rintro e w4 ⟨rfl, k3⟩
        replace C := C.trans1 k3
        replace B := B.chg k3 (by simp)
        clear k3
        obtain ⟨Y, hY⟩ : ∃ Y, ev f (d i) 0 M = Y := ⟨_, rfl⟩
        have HY : Hid (ev f (d i) 0 M = Y) := hY
        rw [hY]
        clear hY
        have HBd := built_sh (d i) Y
        go_wp2_with (first
          | (with_reducible refine build_2 ?_ 96 0 1 (.tmp 27) (.tmp 31) ?_ (.int .i64 (d i)) (fe Y) ?_ ?_ (shC (d i) Y) HBd ?_
             · rfl
             · rfl
             · rfl
             · rfl)
          | (refine store_hb rfl (.tmp 33) (.tmp 32) rfl g N i _ _ (d i) Y rfl rfl B HI1.out ?_; intro w5 B5 k5))
        rw [← HY.out] at B5
        replace C := C.new k5 HG.out
        clear B k5
        go_roundw
        case rel => exact ⟨i + 1, HI1.out, by go_num, B5.congr (fun j _ => upS_step d i j) (fun j _ => upS_step (fun j => ev f (d j) 0 M) i j), C⟩
        case measure => exact HMs.out
      · obtain rfl : i = N := by omega
        have hI : ¬ (i : Int) < (i : Int) := by omega
        go_wp2_with fail
        go_ret2
        exact ⟨Or.inr ⟨HZ.out, g, HG.out, rfl, B.congr (fun j hj => if_pos hj) (fun j hj => if_pos hj)⟩, C⟩
  · have HZ : Hid (¬ idR d N = 0) := h0
    go_wp2_with fail
    go_ret2
    exact ⟨Or.inl ⟨HZ.out, rfl⟩, k⟩
end Go.Proofs.YtoafcaieifjoiaaGreat
