/- Joined: RRe1, RRe2, RRe3. -/
import Derived.Test.YtoafcaieifjoiaaGreatMgH
import Derived.Test.YtoafcaieifjoiaaGreatMgR
import Derived.Test.YtoafcaieifjoiaaGreatBkM7
import Derived.Test.YtoafcaieifjoiaaGreatMgO
/- rimeref07.of, values, through, Interpolate. -/
set_option linter.unusedVariables false
set_option linter.unusedSimpArgs false
set_option linter.unnecessarySimpa false
namespace Go.Proofs.YtoafcaieifjoiaaGreat
open Go.RowKit N

theorem Oi.ilL {w : World} {base : Nat} {v : Value} {d : Nat → Int} {N : Nat} (h : Oi w base v (liL d N)) : Il w v N d := by
  have q := OwnR.rl h
  rw [liL_len] at q
  rcases q.2 with h2 | ⟨g, o, cap, e, h1, h2, h3, h4⟩
  · exact Or.inl h2
  · refine Or.inr ⟨g, o, cap, e, h1, h2, h3, fun i hi => ?_⟩
    have := h4 i hi 0 (.int .i64 (d i)) (by unfold oI; rw [liL_get _ _ _ hi]; rfl)
    rwa [Nat.mul_one, Nat.add_zero] at this
set_option maxHeartbeats 8000000 in
set_option maxRecDepth 100000 in
theorem of_r (v : Value) (N : Nat) (d y : Nat → Int) (hN : N ≤ 4398046511000) (w : World) (hL : Hl w v N d y) :
    Calls Tryz.prog 73 #[v] w fun e w' => ∃ r, e = .returned r ∧ Oi w' w.heap.size r (liL d N) ∧ Chg w w' [] := by
  obtain ⟨p, cp, rfl, hp⟩ := hL.1.form
  have HP : Hid (∀ i, i < N → ∃ g o, p = some ⟨g, o, none⟩ ∧ g < w.heap.size ∧ w.rangeAt g (o + i * 33) (hF d y i)) := hp
  have HN : Hid (N ≤ 4398046511000) := hN
  obtain ⟨ii, hii, hizz, hiss, _⟩ := intRowS
  have O0 : Oi w w.heap.size (.slice none 0 0) (liL d 0) := Oi.nil _ _
  clear hp hL hN
  go_enter Tryz.func73, Tryz.ntmps73
  go_wp2_with fail
  go_loopw [3, 4] (fun t3 t wr => ∃ i : Nat, i ≤ N ∧ t = .int .i64 (i : Int) ∧ Oi wr w.heap.size t3 (liL d i) ∧ Chg w wr []) (fun _ t _ => (N - intOf t).toNat)
  case atStart => exact ⟨0, Nat.zero_le _, rfl, O0, Chg.refl w []⟩
  case round =>
    clear O0
    obtain ⟨i, hi, rfl, O, C⟩ := hrel
    by_cases h : i < N
    · have hI : (i : Int) < (N : Int) := by omega
      have hI0 : (0 : Int) ≤ (i : Int) := by omega
      have e1 : IntKind.i64.wrap ((i : Int) + 1) = (i : Int) + 1 := by have := HN.out; rw [IntKind.wrap_i64]; omega
      have HMs : Hid _ := mN N i h
      have HI : Hid (i < N) := h
      obtain ⟨gp, o, rfl, hg, hF⟩ := HP.out i h
      have hF' : wr.rangeAt gp (o + i * 33) (.int .i64 (d i) :: feL (y i)) := rangeAt_chg hF hg C (by simp)
      have hID : wr.cell? ⟨gp, o + i * 33, none⟩ = some (.int .i64 (d i)) := by have := hF' 0 _ rfl; rwa [Nat.add_zero] at this
      have HOB : Hid (∀ k ∈ ob u3, w.heap.size ≤ k) := fun k hk => (ob_own O k hk).1
      have HCz : Hid (w.heap.size ≤ wr.heap.size) := C.size
      clear hF hg h hi hF'
      go_wp2_with (first
        | (with_reducible refine bslice_w ?_ 25 3 (.tmp 16) ?_ (.int .i64 (d i)) ?_ #[.int .i64 (d i)] ii (.int .i64 0) Tryz.underlying25 hii hizz 1 hiss ?_ ?_ (fill_int (d i)) ?_
           · rfl
           · rfl
           · rfl
           · omega
           · omega
           intro gx w2 hgx Bg k2)
        | (with_reducible refine append_oi ?_ (.tmp 11) (.tmp 17) ?_ w.heap.size u3 gx (liL d i) (d i) ?_ ?_ (O.chg k2) Bg ?_ ?_ ?_
           · rfl
           · rfl
           · rfl
           · rfl
           · rw [liL_len]; have := HN.out; have := HI.out; omega
           · have := HCz.out; have := k2.size; omega
           intro v7 wq O7 k7))
      replace C := (C.trans1 k2).trans k7 (fun i hi => Or.inr (HOB.out i hi))
      rw [← liL_s] at O7
      clear O k2 k7 Bg hgx hID
      go_roundw
      case rel => exact ⟨i + 1, HI.out, by go_num, O7, C⟩
      case measure => exact HMs.out
    · obtain rfl : N = i := by omega
      have hI : ¬ (N : Int) < (N : Int) := by omega
      go_wp2_with fail
      go_ret
      exact ⟨_, rfl, O, C⟩
set_option maxHeartbeats 8000000 in
set_option maxRecDepth 100000 in
theorem values_r (v : Value) (N : Nat) (d y : Nat → Int) (hN : N ≤ 1000000) (w : World) (hL : Hl w v N d y) :
    Calls Tryz.prog 75 #[v] w fun e w' => ∃ r, e = .returned r ∧ Os w' w.heap.size r (liL (rd0 y) N) ∧ Chg w w' [] := by
  have HRY : Hid (∀ j, j < N → R256 (y j)) := hL.2
  obtain ⟨p, cp, rfl, hp⟩ := hL.1.form
  have HP : Hid (∀ i, i < N → ∃ g o, p = some ⟨g, o, none⟩ ∧ g < w.heap.size ∧ w.rangeAt g (o + i * 33) (hF d y i)) := hp
  have HN : Hid (N ≤ 1000000) := hN
  obtain ⟨ie, hie, hiz, his, hib⟩ := scRowL
  have O0 : Os w w.heap.size (.slice none 0 0) (liL (rd0 y) 0) := OwnR.nil _ _ _ _ _
  clear hp hL hN
  go_enter Tryz.func75, Tryz.ntmps75
  go_wp2_with fail
  go_loopw [3, 4] (fun t3 t wr => ∃ i : Nat, i ≤ N ∧ t = .int .i64 (i : Int) ∧ Os wr w.heap.size t3 (liL (rd0 y) i) ∧ Chg w wr []) (fun _ t _ => (N - intOf t).toNat)
  case atStart => exact ⟨0, Nat.zero_le _, rfl, O0, Chg.refl w []⟩
  case round =>
    clear O0
    obtain ⟨i, hi, rfl, O, C⟩ := hrel
    by_cases h : i < N
    · have hI : (i : Int) < (N : Int) := by omega
      have hI0 : (0 : Int) ≤ (i : Int) := by omega
      have e1 : IntKind.i64.wrap ((i : Int) + 1) = (i : Int) + 1 := by have := HN.out; rw [IntKind.wrap_i64]; omega
      have HMs : Hid _ := mN N i h
      have HI : Hid (i < N) := h
      have HRy : Hid (R256 (y i)) := HRY.out i h
      obtain ⟨gp, o, rfl, hg, hF⟩ := HP.out i h
      have hF' : wr.rangeAt gp (o + i * 33) (.int .i64 (d i) :: feL (y i)) := rangeAt_chg hF hg C (by simp)
      have hVL : wr.rangeAt gp (o + i * 33 + 1) (feL (y i)) := fun j v hv => by
        have := hF' (j + 1) v (by rw [List.getElem?_cons_succ]; exact hv)
        rw [← this]; congr 2; omega
      have HOB : Hid (∀ k ∈ ob u3, w.heap.size ≤ k) := fun k hk => (ob_own O k hk).1
      clear hF hg h hi hF'
      go_wp2_with (first
        | (with_reducible refine load_sc ?_ (.tmp 15) ?_ gp (o + i * 33 + 1) (y i) ?_ hVL ?_
           · rfl
           · rfl
           · rfl)
        | (refine gl_build (by rfl) 24 #[] rfl (feC 0) (by kernel_rfl) ?_))
      refine (Add_q _ _ HRy.out r256_c0 _).mono ?_
      rintro e w1 ⟨rfl, k1⟩
      replace C := C.trans1 k1
      have O1 : Os w1 w.heap.size u3 (liL (rd0 y) i) := O.chg k1
      have HCz : Hid (w.heap.size ≤ w1.heap.size) := C.size
      clear k1 O hVL
      go_wp2_with (first
        | (with_reducible refine bslice_w ?_ 22 24 (.tmp 18) ?_ (fe (ad (y i) 0)) ?_ (feC (ad (y i) 0)) ie (.agg z32) Tryz.underlying22 hie hiz 32 his ?_ ?_ (fill_sc _) ?_
           · rfl
           · rfl
           · rfl
           · omega
           · omega
           intro gx w2 hgx Bg k2)
        | (with_reducible refine append_os ?_ (.tmp 11) (.tmp 19) ?_ w.heap.size u3 gx (liL (rd0 y) i) (ad (y i) 0) ?_ ?_ (O1.chg k2) Bg ?_ ?_ ?_
           · rfl
           · rfl
           · rfl
           · rfl
           · rw [liL_len]; have := HN.out; have := HI.out; omega
           · have := HCz.out; have := k2.size; omega
           intro v7 w7 O7 k7))
      replace C := (C.trans1 k2).trans k7 (fun i hi => Or.inr (HOB.out i hi))
      replace O7 : Os w7 w.heap.size v7 (liL (rd0 y) (i + 1)) := by rw [liL_s]; exact O7
      clear k2 k7 O1 Bg hgx
      go_roundw
      case rel => exact ⟨i + 1, HI.out, by go_num, O7, C⟩
      case measure => exact HMs.out
    · obtain rfl : N = i := by omega
      have hI : ¬ (N : Int) < (N : Int) := by omega
      go_wp2_with fail
      go_ret
      exact ⟨_, rfl, O, C⟩
end Go.Proofs.YtoafcaieifjoiaaGreat

/- rimeref07.Threshold, enough, one. -/
namespace Go.Proofs.YtoafcaieifjoiaaGreat
open Go.RowKit N

theorem Ls.take {w : World} {p : Option Addr} {N c : Nat} {f : Nat → Nat} (h : Ls w (.slice p N c) N f) {n : Nat} (h0 : 0 < n) (hn : n ≤ N) : Ls w (.slice p n c) n f := by
  refine ⟨fun i hi => h.1 i (by omega), ?_⟩
  rcases h.2 with ⟨h1, _⟩ | ⟨g, o, cap, e, h1, h2, h3, h4⟩
  · omega
  · simp only [Value.slice.injEq] at e
    obtain ⟨rfl, _, rfl⟩ := e
    exact Or.inr ⟨g, o, c, rfl, by omega, h2, h3, fun i hi => h4 i (by omega)⟩
theorem Ls.cap {w : World} {p : Option Addr} {N c : Nat} {f : Nat → Nat} (h : Ls w (.slice p N c) N f) : N ≤ c := by
  rcases h.2 with ⟨h1, _⟩ | ⟨g, o, cap, e, h1, _⟩
  · omega
  · simp only [Value.slice.injEq] at e
    obtain ⟨_, _, rfl⟩ := e
    exact h1
set_option maxHeartbeats 4000000 in
set_option maxRecDepth 100000 in
theorem Threshold_r (t : Int) (w : World) : Calls Tryz.prog 82 #[.int .i64 t] w fun e w' => e = .returned (.int .i64 (if 1 ≤ t ∧ t ≤ 255 then 0 else 7)) ∧ w' = w := by
  by_cases h1 : t < 1
  · rw [if_neg (by omega)]
    go_enter Tryz.func82, Tryz.ntmps82
    go_wp2_with fail
    go_ret
    exact ⟨rfl, rfl⟩
  · by_cases h2 : 255 < t
    · rw [if_neg (by omega)]
      go_enter Tryz.func82, Tryz.ntmps82
      go_wp2_with fail
      go_ret
      exact ⟨rfl, rfl⟩
    · rw [if_pos (by omega)]
      go_enter Tryz.func82, Tryz.ntmps82
      go_wp2_with fail
      go_ret
      exact ⟨rfl, rfl⟩
end Go.Proofs.YtoafcaieifjoiaaGreat

/- rimeref07.enough, Recover, Consistent. -/
namespace Go.Proofs.YtoafcaieifjoiaaGreat
open Go.RowKit N

set_option maxHeartbeats 8000000 in
set_option maxRecDepth 100000 in
theorem enough_r (v : Value) (N : Nat) (d y : Nat → Int) (hN : N ≤ 4398046511000) (t : Int) (w : World) (hL : Hl w v N d y) :
    Calls Tryz.prog 79 #[v, .int .i64 t] w fun e w' => e = .returned (.int .i64 (enR d N t)) ∧ Chg w w' [] := by
  have HL : Hid (Hl w v N d y) := hL
  have HNb : Hid (N ≤ 4398046511000) := hN
  obtain ⟨p, cp, rfl, _⟩ := hL.1.form
  have hTh := Threshold_r t w
  clear hL hN
  by_cases h1 : 1 ≤ t ∧ t ≤ 255
  · rw [if_pos h1] at hTh
    by_cases h2 : (N : Int) < t
    · have HE : Hid (enR d N t = 8) := by show enR d N t = 8; unfold enR; rw [if_pos h1, if_pos h2]
      clear h1
      go_enter Tryz.func79, Tryz.ntmps79
      go_wp2_with (go_at_call 82; refine hTh.mono ?_; rintro e w' ⟨rfl, rfl⟩)
      go_ret
      rw [HE.out]
      exact ⟨rfl, Chg.refl _ []⟩
    · have HE : Hid (enR d N t = idR d N) := by show enR d N t = idR d N; unfold enR; rw [if_pos h1, if_neg h2]
      clear h1
      go_enter Tryz.func79, Tryz.ntmps79
      go_wp2_with (go_at_call 82; refine hTh.mono ?_; rintro e w' ⟨rfl, rfl⟩)
      refine (of_r _ N d y HNb.out _ HL.out).mono ?_
      rintro e w3 ⟨r0, rfl, O0, k3⟩
      have hIs := IDs_r _ N d (by have := HNb.out; omega) w3 O0.ilL
      have C := k3
      clear k3 O0
      go_wp2_with fail
      refine hIs.mono ?_
      rintro e wr ⟨rfl, k4⟩
      replace C := C.trans1 k4
      clear k4 hIs
      go_wp2_with fail
      go_ret
      rw [HE.out]
      exact ⟨rfl, C⟩
  · rw [if_neg h1] at hTh
    have HE : Hid (enR d N t = 7) := by show enR d N t = 7; unfold enR; rw [if_neg h1]
    clear h1
    go_enter Tryz.func79, Tryz.ntmps79
    go_wp2_with (go_at_call 82; refine hTh.mono ?_; rintro e w' ⟨rfl, rfl⟩)
    go_ret
    rw [HE.out]
    exact ⟨rfl, Chg.refl _ []⟩
end Go.Proofs.YtoafcaieifjoiaaGreat
