/- ShamirRecovers: the walk. -/
import Derived.Test.YtemjpibmefggnaaGreatWtA
import Derived.Test.YtemjpibmefggnaaGreatMgR
import Derived.Test.YtemjpibmefggnaaGreatGvIH
import Derived.Test.YtemjpibmefggnaaGreatMgE
set_option linter.unusedVariables false
set_option linter.unusedSimpArgs false
set_option linter.unnecessarySimpa false
namespace Go.Proofs.YtemjpibmefggnaaGreat
open Go.RowKit N

theorem load_gR {w : World} {ops : Array Oper} {rest : List Oper} {op : Oper} {a : Act} {Q : Exit → Act → World → Prop} {b : Nat} {X : Int} (hB : Blk w b (feC X) 24) (x : Operand) (hw : Region.wanted op (yielded ops a.tmps) = true) (ho : op.op = .load 24 x) (hx : a.eval x = .pointer (some ⟨b, 0, none⟩))
    (h : wpList Tryz.prog ops Q rest (a.put op.dst (fe X)) w) : wpList Tryz.prog ops Q (op :: rest) a w :=
  wpList_step fun K hK => by rw [if_pos hw]; exact wp_load_mid 24 x ho b 0 hx (feL X) _ (blk_range hB) Tryz.underlying24 rfl feInfo (hK _ _ h)
theorem enR_wrap (d : Nat → Int) (N : Nat) (t : Int) : IntKind.i64.wrap (enR d N t) = enR d N t := by
  unfold enR
  split
  · split
    · rfl
    · exact idR_wrap d N
  · rfl
theorem rcR_wrap (d y : Nat → Int) (N : Nat) (t : Int) : IntKind.i64.wrap (RcR d y N t).2 = (RcR d y N t).2 := by
  unfold RcR
  split
  · exact enR_wrap d N t
  · split <;> rfl
theorem csR_wrap (d y : Nat → Int) (N : Nat) (t : Int) : IntKind.i64.wrap (csR d y N t).2 = (csR d y N t).2 := by
  unfold csR
  split
  · split
    · rfl
    · exact idR_wrap d N
  · rfl
set_option maxHeartbeats 32000000 in
set_option maxRecDepth 100000 in
theorem recovers_walk (u : Value) (N : Nat) (d y : Nat → Int) (x t : Int) (rx : R256 x) (hN : N ≤ 3518437208780) (w : World) (hL : Hl w u N d y) :
    Calls Tryz.prog 5 #[u, fe x, .int .i64 t] w fun e w' => e = .returned (.bool true) ∧ Chg w w' [] := by
  have hge := feGuard
  have HN : Hid (N ≤ 3518437208780) := hN
  have HRx : Hid (R256 x) := rx
  have HL : Hid (Hl w u N d y) := hL
  have HRy : Hid (∀ j, j < N → R256 (y j)) := hL.2
  obtain ⟨E1, hE1⟩ : ∃ I, idR d N = I := ⟨_, rfl⟩
  obtain ⟨V1, hV1⟩ : ∃ I, ipR x d y N = I := ⟨_, rfl⟩
  obtain ⟨E2, hE2⟩ : ∃ I, (RcR d y N t).2 = I := ⟨_, rfl⟩
  obtain ⟨V2, hV2⟩ : ∃ I, (RcR d y N t).1 = I := ⟨_, rfl⟩
  obtain ⟨E3, hE3⟩ : ∃ I, (csR d y N t).2 = I := ⟨_, rfl⟩
  obtain ⟨b, hb⟩ : ∃ I, (csR d y N t).1 = I := ⟨_, rfl⟩
  have HWE1 : Hid (IntKind.i64.wrap E1 = E1) := by show _ = _; rw [← hE1]; exact idR_wrap d N
  have HWE2 : Hid (IntKind.i64.wrap E2 = E2) := by show _ = _; rw [← hE2]; exact rcR_wrap d y N t
  have HWE3 : Hid (IntKind.i64.wrap E3 = E3) := by show _ = _; rw [← hE3]; exact csR_wrap d y N t
  have HIs : Hid (∀ v W, Hl W v N d y → Calls Tryz.prog 26 #[v, fe x] W fun e w' => e = .returned (.tuple #[fe V1, .int .i64 E1]) ∧ Chg W w' []) := fun v W h => by
    have q := Interpolate_s v N d y (by have := HN.out; omega) x HRx.out W h
    rwa [hV1, hE1] at q
  have HIr : Hid (∀ v W, Hl W v N d y → Calls Tryz.prog 27 #[v, fe x] W fun e w' => e = .returned (.tuple #[fe V1, .int .i64 E1]) ∧ Chg W w' []) := fun v W h => by
    have q := Interpolate_r v N d y (by have := HN.out; omega) x HRx.out W h
    rwa [hV1, hE1] at q
  have HRs : Hid (∀ v W, Hl W v N d y → Calls Tryz.prog 28 #[v, .int .i64 t] W fun e w' => e = .returned (.tuple #[fe V2, .int .i64 E2]) ∧ Chg W w' []) := fun v W h => by
    have q := Recover_s v N d y (by have := HN.out; omega) t (fun j h hj => id_ne (idR_zero (enR_zero h).2.2.2).1 j hj) W h
    rwa [hV2, hE2] at q
  have HRr : Hid (∀ v W, Hl W v N d y → Calls Tryz.prog 29 #[v, .int .i64 t] W fun e w' => e = .returned (.tuple #[fe V2, .int .i64 E2]) ∧ Chg W w' []) := fun v W h => by
    have q := Recover_r v N d y (by have := HN.out; omega) t W h
    rwa [hV2, hE2] at q
  have HCs : Hid (∀ v W, Hl W v N d y → Calls Tryz.prog 30 #[v, .int .i64 t] W fun e w' => e = .returned (.tuple #[.bool b, .int .i64 E3]) ∧ Chg W w' []) := fun v W h => by
    have q := Consistent_s v N d y (by have := HN.out; omega) t (fun j h hj => id_ne (idR_zero h).1 j hj) W h
    rwa [hb, hE3] at q
  have HCr : Hid (∀ v W, Hl W v N d y → Calls Tryz.prog 31 #[v, .int .i64 t] W fun e w' => e = .returned (.tuple #[.bool b, .int .i64 E3]) ∧ Chg W w' []) := fun v W h => by
    have q := Consistent_r v N d y (by have := HN.out; omega) t W h
    rwa [hb, hE3] at q
  clear hN rx hL hE1 hE2 hE3 hV1 hV2 hb
  go_enter Tryz.func5, Tryz.ntmps5
  go_wp2_with (first
    | (with_reducible refine alloc_w rfl 42 rfl (.agg (gvC gNh)) zeroGh (gvC gNh) rfl ?_; intro gb w2 hgb Bg k2)
    | (refine box_w rfl 24 _ rfl (feC x) rfl ?_; intro xb w1 hxb Bx k1))
  have C : Chg w w2 [] := k1.trans1 k2
  have HGB : Hid (w.heap.size ≤ gb) := by have := k1.size; show w.heap.size ≤ gb; omega
  have HXG : Hid (¬ xb ∈ [gb]) := by have := Bx.lt; show ¬ xb ∈ [gb]; simp; omega
  have hgl : gb ≤ w2.heap.size := Nat.le_of_lt Bg.lt
  replace Bx := Bx.chg k2 (by simp)
  have G0 : Gv w2 gb gb gNh 16 42 49 96 33 0 (fun _ => 0) (fun _ _ => []) := Gv.noneH Bg _ _
  clear hxb hgb k1 k2 Bg
  refine (GivenShares_s gb N gb 0 u d y gNh _ _ w2 HN.out (by decide) hgl (HL.out.chg C) G0).mono ?_
  rintro e w3 ⟨r, rfl, o, la, lb, rfl, ho, c1, bo, G1⟩
  have gch1 : gch gb gNh 16 = [gb] := rfl
  rw [gch1] at c1
  have X1 := copy_hl bo (by omega) (by have := HN.out; omega) HRy.out
  replace C : Chg w w3 [] := C.trans c1 (fun x hx => Or.inr (by simp at hx; subst hx; exact HGB.out))
  replace Bx := Bx.chg c1 HXG.out
  obtain ⟨uv, huv⟩ : ∃ uv : Value, .slice (some ⟨o, 0, none⟩) N (N + 3) = uv := ⟨_, rfl⟩
  rw [huv] at X1
  rw [huv]
  obtain ⟨Ga, hGa⟩ : ∃ G, upV (upV gNh 16 la) (16 + 1) lb = G := ⟨_, rfl⟩
  have HGa : Hid (∀ q, q < 30 → ¬ q = 16 → ¬ q = 17 → Ga q = .slice none 0 0) := fun q _ h1 h2 => by rw [← hGa, upV_other _ _ _ _ h2, upV_other _ _ _ _ h1]; rfl
  rw [hGa] at G1
  have HX : Hid (Hl w3 uv N d y) := X1
  have D : Chg w3 w3 [] := Chg.refl _ _
  clear c1 bo ho gch1 X1 hgl huv hGa G0 HXG
  go_wp2_with (first
    | (with_reducible refine load_b Bx 24 (.tmp 4) Tryz.underlying24 ?_ ?_ ?_ ?_ ?_ ?_
       · rfl
       · rfl
       · rfl
       · rfl
       · exact feInfo))
  refine (HIs.out _ _ HX.out).mono ?_
  rintro e w4 ⟨rfl, k⟩
  replace Bx := Bx.chg k (by simp)
  replace C := C.trans1 k
  replace D := D.trans1 k
  replace G1 := G1.chg k
  clear k
  go_upto_region 4 with (first
    | (with_reducible refine alloc_w rfl 24 rfl (.agg z32) zeroSc z32 rfl ?_; intro qa w5 hgb Ba0 k5)
    | (refine store_w Ba0 rfl 24 _ _ (feC V1) rfl rfl rfl feInfo rfl (feC_one _) ?_; intro w6a Ba k6))
  have k := k5.new k6 hgb
  replace Bx := Bx.chg k (by simp)
  replace C := C.trans1 k
  replace D := D.trans1 k
  replace G1 := G1.chg k
  clear k k5 k6 hgb Ba0
  go_wp2_with (first
    | (with_reducible refine load_b Bx 24 (.tmp 4) Tryz.underlying24 ?_ ?_ ?_ ?_ ?_ ?_
       · rfl
       · rfl
       · rfl
       · rfl
       · exact feInfo))
  refine (HIr.out _ _ (HL.out.chg C)).mono ?_
  rintro e w5 ⟨rfl, k⟩
  replace Bx := Bx.chg k (by simp)
  replace Ba := Ba.chg k (by simp)
  replace C := C.trans1 k
  replace D := D.trans1 k
  replace G1 := G1.chg k
  clear k Bx
  go_upto_region 5 with (first
    | (with_reducible refine alloc_w rfl 24 rfl (.agg z32) zeroSc z32 rfl ?_; intro qb w5 hgb Bb0 k5)
    | (refine store_w Bb0 rfl 24 _ _ (feC V1) rfl rfl rfl feInfo rfl (feC_one _) ?_; intro w6b Bb k6))
  have k := k5.new k6 hgb
  replace Ba := Ba.chg k (by simp)
  replace C := C.trans1 k
  replace D := D.trans1 k
  replace G1 := G1.chg k
  clear k k5 k6 hgb Bb0
  go_wp2_with fail
  refine (HRs.out _ _ (HX.out.chg D)).mono ?_
  rintro e w6 ⟨rfl, k⟩
  replace Ba := Ba.chg k (by simp)
  replace Bb := Bb.chg k (by simp)
  replace C := C.trans1 k
  replace D := D.trans1 k
  replace G1 := G1.chg k
  clear k
  go_upto_region 6 with (first
    | (with_reducible refine alloc_w rfl 24 rfl (.agg z32) zeroSc z32 rfl ?_; intro qc w5 hgb Bc0 k5)
    | (refine store_w Bc0 rfl 24 _ _ (feC V2) rfl rfl rfl feInfo rfl (feC_one _) ?_; intro w6c Bc k6))
  have k := k5.new k6 hgb
  replace Ba := Ba.chg k (by simp)
  replace Bb := Bb.chg k (by simp)
  replace C := C.trans1 k
  replace D := D.trans1 k
  replace G1 := G1.chg k
  clear k k5 k6 hgb Bc0
  go_wp2_with fail
  refine (HRr.out _ _ (HL.out.chg C)).mono ?_
  rintro e w7 ⟨rfl, k⟩
  replace Ba := Ba.chg k (by simp)
  replace Bb := Bb.chg k (by simp)
  replace Bc := Bc.chg k (by simp)
  replace C := C.trans1 k
  replace D := D.trans1 k
  replace G1 := G1.chg k
  clear k
  go_upto_region 7 with (first
    | (with_reducible refine alloc_w rfl 24 rfl (.agg z32) zeroSc z32 rfl ?_; intro qd w5 hgb Bd0 k5)
    | (refine store_w Bd0 rfl 24 _ _ (feC V2) rfl rfl rfl feInfo rfl (feC_one _) ?_; intro w6d Bd k6))
  have k := k5.new k6 hgb
  replace Ba := Ba.chg k (by simp)
  replace Bb := Bb.chg k (by simp)
  replace Bc := Bc.chg k (by simp)
  replace C := C.trans1 k
  replace D := D.trans1 k
  replace G1 := G1.chg k
  clear k k5 k6 hgb Bd0
  go_wp2_with fail
  refine (HCs.out _ _ (HX.out.chg D)).mono ?_
  rintro e w8 ⟨rfl, k⟩
  replace Ba := Ba.chg k (by simp)
  replace Bb := Bb.chg k (by simp)
  replace Bc := Bc.chg k (by simp)
  replace Bd := Bd.chg k (by simp)
  replace C := C.trans1 k
  replace D := D.trans1 k
  replace G1 := G1.chg k
  clear k
  go_wp2_with fail
  refine (HCr.out _ _ (HL.out.chg C)).mono ?_
  rintro e wr ⟨rfl, k⟩
  replace Ba := Ba.chg k (by simp)
  replace Bb := Bb.chg k (by simp)
  replace Bc := Bc.chg k (by simp)
  replace Bd := Bd.chg k (by simp)
  replace C := C.trans1 k
  replace D := D.trans1 k
  replace G1 := G1.chg k
  clear k
  have HIT : Hid (∀ W, Chg wr W [] → Calls Tryz.prog 18 #[.pointer (some ⟨gb, 0, none⟩)] W fun e w' => e = .returned (.bool true) ∧ Chg W w' []) := fun W h =>
    Intact_h gb gb (0 + 1) Ga _ _ W (G1.chg h) (fun q h0 h1 h2 => HGa.out q h0 h1 h2) (fun j hj => by have := HN.out; split <;> omega)
      (fun j hj => by
        obtain ⟨z1, z2, hz1, hz2⟩ := gv_shE N d y HRy.out
        obtain rfl : j = 0 := by omega
        exact ⟨z1, z2, by simp only [if_pos]; exact hz1, hz2⟩) (by omega)
  clear G1 HL HX HRx HN HGa D HIs HIr HRs HRr HCs HCr HRy
  have h11 : (E1 == E1) = true := by simp
  have h22 : (E2 == E2) = true := by simp
  have h33 : (E3 == E3) = true := by simp
  have hbb : (b == b) = true := by simp
  go_wp2_with (first
    | (with_reducible refine load_b Ba 24 (.tmp 9) Tryz.underlying24 ?_ ?_ ?_ ?_ ?_ ?_
       · rfl
       · rfl
       · rfl
       · rfl
       · exact feInfo)
    | (with_reducible refine load_b Bb 24 (.tmp 11) Tryz.underlying24 ?_ ?_ ?_ ?_ ?_ ?_
       · rfl
       · rfl
       · rfl
       · rfl
       · exact feInfo)
    | (with_reducible refine load_gR Bc (.tmp 13) ?_ ?_ ?_ ?_
       · rfl
       · rfl
       · rfl)
    | (with_reducible refine load_gR Bd (.tmp 15) ?_ ?_ ?_ ?_
       · rfl
       · rfl
       · rfl)
    | (go_at_call 16; refine (numS E1 HWE1.out _).mono ?_; rintro e w' ⟨rfl, rfl⟩)
    | (go_at_call 16; refine (numS E2 HWE2.out _).mono ?_; rintro e w' ⟨rfl, rfl⟩)
    | (go_at_call 16; refine (numS E3 HWE3.out _).mono ?_; rintro e w' ⟨rfl, rfl⟩))
  refine (HIT.out _ (Chg.refl _ _)).mono ?_
  rintro e v2 ⟨rfl, j2⟩
  go_wp2_with fail
  refine (alive_s _).mono ?_
  rintro e v3 ⟨rfl, j3⟩
  go_wp2_with fail
  go_ret
  exact ⟨rfl, (C.trans1 j2).trans1 j3⟩
end Go.Proofs.YtemjpibmefggnaaGreat
