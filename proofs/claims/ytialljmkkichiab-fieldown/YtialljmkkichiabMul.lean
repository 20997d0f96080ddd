/- (*number).mul: the limbs of the product. -/
import Derived.Test.YtialljmkkichiabCarry
import Derived.Test.YtialljmkkichiabWide
import Derived.Deep.RegionHeld3
set_option linter.unusedVariables false
set_option linter.unusedSimpArgs false
set_option linter.unnecessarySimpa false
namespace Go.Proofs.Ytialljmkkichiab
open Go.RowKit N

set_option maxHeartbeats 16000000 in
set_option maxRecDepth 100000 in
theorem mul_any (z x y : Nat) (a0 a1 a2 a3 a4 b0 b1 b2 b3 b4 c0 c1 c2 c3 c4 : Int) (w : World) (hz : NumAt w z c0 c1 c2 c3 c4) (hx : NumAt w x a0 a1 a2 a3 a4) (hy : NumAt w y b0 b1 b2 b3 b4) (la0 : Lo a0) (la1 : Lo a1) (la2 : Lo a2) (la3 : Lo a3) (la4 : Lo a4) (lb0 : Lo b0) (lb1 : Lo b1) (lb2 : Lo b2) (lb3 : Lo b3) (lb4 : Lo b4) :
    Calls Try.prog 40 #[.pointer (some ⟨z, 0, none⟩), .pointer (some ⟨x, 0, none⟩), .pointer (some ⟨y, 0, none⟩)] w fun e w' => e = .returned (.tuple #[]) ∧
      ∃ y0 y1 y2 y3 y4 : Int, NumAt w' z y0 y1 y2 y3 y4 ∧ w.grownBy w' (some z) ∧ (Lo y0 ∧ Lo y1 ∧ Lo y2 ∧ Lo y3 ∧ Lo y4) ∧ V y0 y1 y2 y3 y4 % P = V a0 a1 a2 a3 a4 * V b0 b1 b2 b3 b4 % P := by
  have ka0 := hx.cell 0; have ka1 := hx.cell 1; have ka2 := hx.cell 2; have ka3 := hx.cell 3; have ka4 := hx.cell 4
  have kb0 := hy.cell 0; have kb1 := hy.cell 1; have kb2 := hy.cell 2; have kb3 := hy.cell 3; have kb4 := hy.cell 4
  simp at ka0 ka1 ka2 ka3 ka4 kb0 kb1 kb2 kb3 kb4
  have hzlt := hz.lt
  have HZ : Blk w z #[.int .u64 c0, .int .u64 c1, .int .u64 c2, .int .u64 c3, .int .u64 c4] 79 := hz
  have ua0 := la0.1; have va0 : a0 < 4503599627370496 := la0.2
  have ua1 := la1.1; have va1 : a1 < 4503599627370496 := la1.2
  have ua2 := la2.1; have va2 : a2 < 4503599627370496 := la2.2
  have ua3 := la3.1; have va3 : a3 < 4503599627370496 := la3.2
  have ua4 := la4.1; have va4 : a4 < 4503599627370496 := la4.2
  have ub0 := lb0.1; have vb0 : b0 < 4503599627370496 := lb0.2
  have ub1 := lb1.1; have vb1 : b1 < 4503599627370496 := lb1.2
  have ub2 := lb2.1; have vb2 : b2 < 4503599627370496 := lb2.2
  have ub3 := lb3.1; have vb3 : b3 < 4503599627370496 := lb3.2
  have ub4 := lb4.1; have vb4 : b4 < 4503599627370496 := lb4.2
  go_enter Try.func40, Try.ntmps40
  go_wp2_with fail
  go_quiet (fail)
  clear ka0 ka1 ka2 ka3 ka4 hx hz
  go_wp2_with fail
  go_quiet (fail)
  clear kb0 kb1 kb2 kb3 kb4 hy
  go_wp2_with fail
  refine (product_b (a0) b0 _ (by omega) (by omega) (by omega) (by omega) (pb1 la0 lb0) _).mono ?_
  rintro e w1 ⟨m00, Hm00, pm00, rfl, g1⟩
  have G1 : w.grownBy w1 none := gb_trans (by (repeat (first | with_reducible exact gb_refl _ _ | with_reducible assumption | with_reducible apply gb_drew | with_reducible apply gb_drewN | with_reducible apply gb_set | with_reducible apply gb_alloc))) g1
  replace HZ := Blk.grown (w' := w1) HZ G1 (by simp)
  clear g1
  go_wp2_with fail
  refine (plus_b m00 (a1 * 19) b4 _ _ pm00.1 pm00.2 (by omega) (by omega) (by omega) (by omega) (pbk 19 (by decide) la1 lb4) (by decide) _).mono ?_
  rintro e w2 ⟨m01, Hm01, pm01, rfl, g2⟩
  have G2 := gb_trans G1 g2
  replace HZ := HZ.grown g2 (by simp)
  clear G1
  clear g2
  go_wp2_with fail
  refine (plus_b m01 (a2 * 19) b3 _ _ pm01.1 pm01.2 (by omega) (by omega) (by omega) (by omega) (pbk 19 (by decide) la2 lb3) (by decide) _).mono ?_
  rintro e w3 ⟨m02, Hm02, pm02, rfl, g3⟩
  have G3 := gb_trans G2 g3
  replace HZ := HZ.grown g3 (by simp)
  clear G2
  clear g3
  go_wp2_with fail
  refine (plus_b m02 (a3 * 19) b2 _ _ pm02.1 pm02.2 (by omega) (by omega) (by omega) (by omega) (pbk 19 (by decide) la3 lb2) (by decide) _).mono ?_
  rintro e w4 ⟨m03, Hm03, pm03, rfl, g4⟩
  have G4 := gb_trans G3 g4
  replace HZ := HZ.grown g4 (by simp)
  clear G3
  clear g4
  go_wp2_with fail
  refine (plus_b m03 (a4 * 19) b1 _ _ pm03.1 pm03.2 (by omega) (by omega) (by omega) (by omega) (pbk 19 (by decide) la4 lb1) (by decide) _).mono ?_
  rintro e w5 ⟨m04, Hm04, pm04, rfl, g5⟩
  have G5 := gb_trans G4 g5
  replace HZ := HZ.grown g5 (by simp)
  clear G4
  have gs0 := G5.size
  clear g5
  go_wp2_with fail
  refine (product_b (a0) b1 _ (by omega) (by omega) (by omega) (by omega) (pb1 la0 lb1) _).mono ?_
  rintro e w6 ⟨m10, Hm10, pm10, rfl, g6⟩
  have K0 := (Blk.new w5 #[.int .u64 (m04 / 18446744073709551616), .int .u64 (m04 % 18446744073709551616)] 89).grown g6 (by simp)
  have G6 := gb_trans (gb_alloc G5 _) g6
  replace HZ := (HZ.alloc (.cells #[.int .u64 (m04 / 18446744073709551616), .int .u64 (m04 % 18446744073709551616)] 89)).grown g6 (by simp)
  clear G5
  clear g6
  go_wp2_with fail
  refine (plus_b m10 (a1) b0 _ _ pm10.1 pm10.2 (by omega) (by omega) (by omega) (by omega) (pb1 la1 lb0) (by decide) _).mono ?_
  rintro e w7 ⟨m11, Hm11, pm11, rfl, g7⟩
  replace K0 := K0.grown g7 (by simp)
  have G7 := gb_trans G6 g7
  replace HZ := HZ.grown g7 (by simp)
  clear G6
  clear g7
  go_wp2_with fail
  refine (plus_b m11 (a2 * 19) b4 _ _ pm11.1 pm11.2 (by omega) (by omega) (by omega) (by omega) (pbk 19 (by decide) la2 lb4) (by decide) _).mono ?_
  rintro e w8 ⟨m12, Hm12, pm12, rfl, g8⟩
  replace K0 := K0.grown g8 (by simp)
  have G8 := gb_trans G7 g8
  replace HZ := HZ.grown g8 (by simp)
  clear G7
  clear g8
  go_wp2_with fail
  refine (plus_b m12 (a3 * 19) b3 _ _ pm12.1 pm12.2 (by omega) (by omega) (by omega) (by omega) (pbk 19 (by decide) la3 lb3) (by decide) _).mono ?_
  rintro e w9 ⟨m13, Hm13, pm13, rfl, g9⟩
  replace K0 := K0.grown g9 (by simp)
  have G9 := gb_trans G8 g9
  replace HZ := HZ.grown g9 (by simp)
  clear G8
  clear g9
  go_wp2_with fail
  refine (plus_b m13 (a4 * 19) b2 _ _ pm13.1 pm13.2 (by omega) (by omega) (by omega) (by omega) (pbk 19 (by decide) la4 lb2) (by decide) _).mono ?_
  rintro e w10 ⟨m14, Hm14, pm14, rfl, g10⟩
  replace K0 := K0.grown g10 (by simp)
  have G10 := gb_trans G9 g10
  replace HZ := HZ.grown g10 (by simp)
  clear G9
  have gs1 := G10.size
  clear g10
  go_wp2_with fail
  refine (product_b (a0) b2 _ (by omega) (by omega) (by omega) (by omega) (pb1 la0 lb2) _).mono ?_
  rintro e w11 ⟨m20, Hm20, pm20, rfl, g11⟩
  have K1 := (Blk.new w10 #[.int .u64 (m14 / 18446744073709551616), .int .u64 (m14 % 18446744073709551616)] 89).grown g11 (by simp)
  replace K0 := (K0.alloc (.cells #[.int .u64 (m14 / 18446744073709551616), .int .u64 (m14 % 18446744073709551616)] 89)).grown g11 (by simp)
  have G11 := gb_trans (gb_alloc G10 _) g11
  replace HZ := (HZ.alloc (.cells #[.int .u64 (m14 / 18446744073709551616), .int .u64 (m14 % 18446744073709551616)] 89)).grown g11 (by simp)
  clear G10
  clear g11
  go_wp2_with fail
  refine (plus_b m20 (a1) b1 _ _ pm20.1 pm20.2 (by omega) (by omega) (by omega) (by omega) (pb1 la1 lb1) (by decide) _).mono ?_
  rintro e w12 ⟨m21, Hm21, pm21, rfl, g12⟩
  replace K0 := K0.grown g12 (by simp)
  replace K1 := K1.grown g12 (by simp)
  have G12 := gb_trans G11 g12
  replace HZ := HZ.grown g12 (by simp)
  clear G11
  clear g12
  go_wp2_with fail
  refine (plus_b m21 (a2) b0 _ _ pm21.1 pm21.2 (by omega) (by omega) (by omega) (by omega) (pb1 la2 lb0) (by decide) _).mono ?_
  rintro e w13 ⟨m22, Hm22, pm22, rfl, g13⟩
  replace K0 := K0.grown g13 (by simp)
  replace K1 := K1.grown g13 (by simp)
  have G13 := gb_trans G12 g13
  replace HZ := HZ.grown g13 (by simp)
  clear G12
  clear g13
  go_wp2_with fail
  refine (plus_b m22 (a3 * 19) b4 _ _ pm22.1 pm22.2 (by omega) (by omega) (by omega) (by omega) (pbk 19 (by decide) la3 lb4) (by decide) _).mono ?_
  rintro e w14 ⟨m23, Hm23, pm23, rfl, g14⟩
  replace K0 := K0.grown g14 (by simp)
  replace K1 := K1.grown g14 (by simp)
  have G14 := gb_trans G13 g14
  replace HZ := HZ.grown g14 (by simp)
  clear G13
  clear g14
  go_wp2_with fail
  refine (plus_b m23 (a4 * 19) b3 _ _ pm23.1 pm23.2 (by omega) (by omega) (by omega) (by omega) (pbk 19 (by decide) la4 lb3) (by decide) _).mono ?_
  rintro e w15 ⟨m24, Hm24, pm24, rfl, g15⟩
  replace K0 := K0.grown g15 (by simp)
  replace K1 := K1.grown g15 (by simp)
  have G15 := gb_trans G14 g15
  replace HZ := HZ.grown g15 (by simp)
  clear G14
  have gs2 := G15.size
  clear g15
  go_wp2_with fail
  refine (product_b (a0) b3 _ (by omega) (by omega) (by omega) (by omega) (pb1 la0 lb3) _).mono ?_
  rintro e w16 ⟨m30, Hm30, pm30, rfl, g16⟩
  have K2 := (Blk.new w15 #[.int .u64 (m24 / 18446744073709551616), .int .u64 (m24 % 18446744073709551616)] 89).grown g16 (by simp)
  replace K0 := (K0.alloc (.cells #[.int .u64 (m24 / 18446744073709551616), .int .u64 (m24 % 18446744073709551616)] 89)).grown g16 (by simp)
  replace K1 := (K1.alloc (.cells #[.int .u64 (m24 / 18446744073709551616), .int .u64 (m24 % 18446744073709551616)] 89)).grown g16 (by simp)
  have G16 := gb_trans (gb_alloc G15 _) g16
  replace HZ := (HZ.alloc (.cells #[.int .u64 (m24 / 18446744073709551616), .int .u64 (m24 % 18446744073709551616)] 89)).grown g16 (by simp)
  clear G15
  clear g16
  go_wp2_with fail
  refine (plus_b m30 (a1) b2 _ _ pm30.1 pm30.2 (by omega) (by omega) (by omega) (by omega) (pb1 la1 lb2) (by decide) _).mono ?_
  rintro e w17 ⟨m31, Hm31, pm31, rfl, g17⟩
  replace K0 := K0.grown g17 (by simp)
  replace K1 := K1.grown g17 (by simp)
  replace K2 := K2.grown g17 (by simp)
  have G17 := gb_trans G16 g17
  replace HZ := HZ.grown g17 (by simp)
  clear G16
  clear g17
  go_wp2_with fail
  refine (plus_b m31 (a2) b1 _ _ pm31.1 pm31.2 (by omega) (by omega) (by omega) (by omega) (pb1 la2 lb1) (by decide) _).mono ?_
  rintro e w18 ⟨m32, Hm32, pm32, rfl, g18⟩
  replace K0 := K0.grown g18 (by simp)
  replace K1 := K1.grown g18 (by simp)
  replace K2 := K2.grown g18 (by simp)
  have G18 := gb_trans G17 g18
  replace HZ := HZ.grown g18 (by simp)
  clear G17
  clear g18
  go_wp2_with fail
  refine (plus_b m32 (a3) b0 _ _ pm32.1 pm32.2 (by omega) (by omega) (by omega) (by omega) (pb1 la3 lb0) (by decide) _).mono ?_
  rintro e w19 ⟨m33, Hm33, pm33, rfl, g19⟩
  replace K0 := K0.grown g19 (by simp)
  replace K1 := K1.grown g19 (by simp)
  replace K2 := K2.grown g19 (by simp)
  have G19 := gb_trans G18 g19
  replace HZ := HZ.grown g19 (by simp)
  clear G18
  clear g19
  go_wp2_with fail
  refine (plus_b m33 (a4 * 19) b4 _ _ pm33.1 pm33.2 (by omega) (by omega) (by omega) (by omega) (pbk 19 (by decide) la4 lb4) (by decide) _).mono ?_
  rintro e w20 ⟨m34, Hm34, pm34, rfl, g20⟩
  replace K0 := K0.grown g20 (by simp)
  replace K1 := K1.grown g20 (by simp)
  replace K2 := K2.grown g20 (by simp)
  have G20 := gb_trans G19 g20
  replace HZ := HZ.grown g20 (by simp)
  clear G19
  have gs3 := G20.size
  clear g20
  go_wp2_with fail
  refine (product_b (a0) b4 _ (by omega) (by omega) (by omega) (by omega) (pb1 la0 lb4) _).mono ?_
  rintro e w21 ⟨m40, Hm40, pm40, rfl, g21⟩
  have K3 := (Blk.new w20 #[.int .u64 (m34 / 18446744073709551616), .int .u64 (m34 % 18446744073709551616)] 89).grown g21 (by simp)
  replace K0 := (K0.alloc (.cells #[.int .u64 (m34 / 18446744073709551616), .int .u64 (m34 % 18446744073709551616)] 89)).grown g21 (by simp)
  replace K1 := (K1.alloc (.cells #[.int .u64 (m34 / 18446744073709551616), .int .u64 (m34 % 18446744073709551616)] 89)).grown g21 (by simp)
  replace K2 := (K2.alloc (.cells #[.int .u64 (m34 / 18446744073709551616), .int .u64 (m34 % 18446744073709551616)] 89)).grown g21 (by simp)
  have G21 := gb_trans (gb_alloc G20 _) g21
  replace HZ := (HZ.alloc (.cells #[.int .u64 (m34 / 18446744073709551616), .int .u64 (m34 % 18446744073709551616)] 89)).grown g21 (by simp)
  clear G20
  clear g21
  go_wp2_with fail
  refine (plus_b m40 (a1) b3 _ _ pm40.1 pm40.2 (by omega) (by omega) (by omega) (by omega) (pb1 la1 lb3) (by decide) _).mono ?_
  rintro e w22 ⟨m41, Hm41, pm41, rfl, g22⟩
  replace K0 := K0.grown g22 (by simp)
  replace K1 := K1.grown g22 (by simp)
  replace K2 := K2.grown g22 (by simp)
  replace K3 := K3.grown g22 (by simp)
  have G22 := gb_trans G21 g22
  replace HZ := HZ.grown g22 (by simp)
  clear G21
  clear g22
  go_wp2_with fail
  refine (plus_b m41 (a2) b2 _ _ pm41.1 pm41.2 (by omega) (by omega) (by omega) (by omega) (pb1 la2 lb2) (by decide) _).mono ?_
  rintro e w23 ⟨m42, Hm42, pm42, rfl, g23⟩
  replace K0 := K0.grown g23 (by simp)
  replace K1 := K1.grown g23 (by simp)
  replace K2 := K2.grown g23 (by simp)
  replace K3 := K3.grown g23 (by simp)
  have G23 := gb_trans G22 g23
  replace HZ := HZ.grown g23 (by simp)
  clear G22
  clear g23
  go_wp2_with fail
  refine (plus_b m42 (a3) b1 _ _ pm42.1 pm42.2 (by omega) (by omega) (by omega) (by omega) (pb1 la3 lb1) (by decide) _).mono ?_
  rintro e w24 ⟨m43, Hm43, pm43, rfl, g24⟩
  replace K0 := K0.grown g24 (by simp)
  replace K1 := K1.grown g24 (by simp)
  replace K2 := K2.grown g24 (by simp)
  replace K3 := K3.grown g24 (by simp)
  have G24 := gb_trans G23 g24
  replace HZ := HZ.grown g24 (by simp)
  clear G23
  clear g24
  go_wp2_with fail
  refine (plus_b m43 (a4) b0 _ _ pm43.1 pm43.2 (by omega) (by omega) (by omega) (by omega) (pb1 la4 lb0) (by decide) _).mono ?_
  rintro e w25 ⟨m44, Hm44, pm44, rfl, g25⟩
  replace K0 := K0.grown g25 (by simp)
  replace K1 := K1.grown g25 (by simp)
  replace K2 := K2.grown g25 (by simp)
  replace K3 := K3.grown g25 (by simp)
  have G25 := gb_trans G24 g25
  replace HZ := HZ.grown g25 (by simp)
  clear G24
  have gs4 := G25.size
  clear g25
  go_wp2_with fail
  have K4 := Blk.new w25 #[.int .u64 (m44 / 18446744073709551616), .int .u64 (m44 % 18446744073709551616)] 89
  replace K0 := K0.alloc (.cells #[.int .u64 (m44 / 18446744073709551616), .int .u64 (m44 % 18446744073709551616)] 89)
  replace K1 := K1.alloc (.cells #[.int .u64 (m44 / 18446744073709551616), .int .u64 (m44 % 18446744073709551616)] 89)
  replace K2 := K2.alloc (.cells #[.int .u64 (m44 / 18446744073709551616), .int .u64 (m44 % 18446744073709551616)] 89)
  replace K3 := K3.alloc (.cells #[.int .u64 (m44 / 18446744073709551616), .int .u64 (m44 % 18446744073709551616)] 89)
  replace HZ := HZ.alloc (.cells #[.int .u64 (m44 / 18446744073709551616), .int .u64 (m44 % 18446744073709551616)] 89)
  have GG := gb_alloc G25 (.cells #[.int .u64 (m44 / 18446744073709551616), .int .u64 (m44 % 18446744073709551616)] 89)
  clear G25
  have E0 : Hid (m04 = a0 * b0 + a1 * 19 * b4 + a2 * 19 * b3 + a3 * 19 * b2 + a4 * 19 * b1) := by show _ = _; rw [Hm04.out, Hm03.out, Hm02.out, Hm01.out, Hm00.out]
  have q0 : 0 ≤ m04 ∧ m04 ≤ 1561745539481177929089595733966925 := ⟨pm04.1, by have := pm04.2; omega⟩
  have E1 : Hid (m14 = a0 * b1 + a1 * b0 + a2 * 19 * b4 + a3 * 19 * b3 + a4 * 19 * b2) := by show _ = _; rw [Hm14.out, Hm13.out, Hm12.out, Hm11.out, Hm10.out]
  have q1 : 0 ≤ m14 ∧ m14 ≤ 1196662166615448023588131796156475 := ⟨pm14.1, by have := pm14.2; omega⟩
  have E2 : Hid (m24 = a0 * b2 + a1 * b1 + a2 * b0 + a3 * 19 * b4 + a4 * 19 * b3) := by show _ = _; rw [Hm24.out, Hm23.out, Hm22.out, Hm21.out, Hm20.out]
  have q2 : 0 ≤ m24 ∧ m24 ≤ 831578793749718118086667858346025 := ⟨pm24.1, by have := pm24.2; omega⟩
  have E3 : Hid (m34 = a0 * b3 + a1 * b2 + a2 * b1 + a3 * b0 + a4 * 19 * b4) := by show _ = _; rw [Hm34.out, Hm33.out, Hm32.out, Hm31.out, Hm30.out]
  have q3 : 0 ≤ m34 ∧ m34 ≤ 466495420883988212585203920535575 := ⟨pm34.1, by have := pm34.2; omega⟩
  have E4 : Hid (m44 = a0 * b4 + a1 * b3 + a2 * b2 + a3 * b1 + a4 * b0) := by show _ = _; rw [Hm44.out, Hm43.out, Hm42.out, Hm41.out, Hm40.out]
  have q4 : 0 ≤ m44 ∧ m44 ≤ 101412048018258307083739982725125 := ⟨pm44.1, by have := pm44.2; omega⟩
  clear Hm00 pm00 Hm01 pm01 Hm02 pm02 Hm03 pm03 Hm04 pm04 Hm10 pm10 Hm11 pm11 Hm12 pm12 Hm13 pm13 Hm14 pm14 Hm20 pm20 Hm21 pm21 Hm22 pm22 Hm23 pm23 Hm24 pm24 Hm30 pm30 Hm31 pm31 Hm32 pm32 Hm33 pm33 Hm34 pm34 Hm40 pm40 Hm41 pm41 Hm42 pm42 Hm43 pm43 Hm44 pm44
  obtain ⟨qa0, qb0⟩ := q0; obtain ⟨qa1, qb1⟩ := q1; obtain ⟨qa2, qb2⟩ := q2; obtain ⟨qa3, qb3⟩ := q3; obtain ⟨qa4, qb4⟩ := q4
  have hz0 : z ≠ w5.heap.size := by have h1 := hzlt; have h2 := gs0; omega
  generalize w5.heap.size = r0 at *
  have hz1 : z ≠ w10.heap.size := by have h1 := hzlt; have h2 := gs1; omega
  generalize w10.heap.size = r1 at *
  have hz2 : z ≠ w15.heap.size := by have h1 := hzlt; have h2 := gs2; omega
  generalize w15.heap.size = r2 at *
  have hz3 : z ≠ w20.heap.size := by have h1 := hzlt; have h2 := gs3; omega
  generalize w20.heap.size = r3 at *
  have hz4 : z ≠ w25.heap.size := by have h1 := hzlt; have h2 := gs4; omega
  generalize w25.heap.size = r4 at *
  generalize w25.alloc (.cells #[.int .u64 (m44 / 18446744073709551616), .int .u64 (m44 % 18446744073709551616)] 89) = W at *
  generalize m04 = R0 at *
  generalize m14 = R1 at *
  generalize m24 = R2 at *
  generalize m34 = R3 at *
  generalize m44 = R4 at *
  have m0 : bits .and .u64 (R0 % 18446744073709551616) 2251799813685247 = R0 % 2251799813685248 := (and51 _ (by omega) (by omega)).trans (by omega)
  have m1 : bits .and .u64 (R1 % 18446744073709551616) 2251799813685247 = R1 % 2251799813685248 := (and51 _ (by omega) (by omega)).trans (by omega)
  have m2 : bits .and .u64 (R2 % 18446744073709551616) 2251799813685247 = R2 % 2251799813685248 := (and51 _ (by omega) (by omega)).trans (by omega)
  have m3 : bits .and .u64 (R3 % 18446744073709551616) 2251799813685247 = R3 % 2251799813685248 := (and51 _ (by omega) (by omega)).trans (by omega)
  have m4 : bits .and .u64 (R4 % 18446744073709551616) 2251799813685247 = R4 % 2251799813685248 := (and51 _ (by omega) (by omega)).trans (by omega)
  replace GG := gb_none GG (some z)
  have t0 : IntKind.u64.wrap (R4 / 2251799813685248 * 19) = R4 / 2251799813685248 * 19 := wr _ (by omega) (by omega)
  have s0 : IntKind.u64.wrap (R0 % 2251799813685248 + R4 / 2251799813685248 * 19) = R0 % 2251799813685248 + R4 / 2251799813685248 * 19 := wr _ (by omega) (by omega)
  have u1 := K0.cell 1; have v0 := K4.cell 0; have v1 := K4.cell 1
  have u1' := fun o => (K0.alloc o).cell 1; have v0' := fun o => (K4.alloc o).cell 0; have v1' := fun o => (K4.alloc o).cell 1; have f' := fun o => (HZ.alloc o).frozen 0; have k' := fun o => (HZ.alloc o).cell 0
  simp at u1 v0 v1 u1' v0' v1' k'
  go_region_held3 (fun w' => w'.cell? ⟨r0, 1, none⟩ = some (.int .u64 (R0 % 18446744073709551616)) ∧ w'.cell? ⟨r4, 0, none⟩ = some (.int .u64 (R4 / 18446744073709551616)) ∧ w'.cell? ⟨r4, 1, none⟩ = some (.int .u64 (R4 % 18446744073709551616))) (simp [*, go_sem]) (first | (go_at_call 76; refine (over_any R4 qa4 (by omega) _).mono ?_; rintro e w' ⟨rfl, rfl⟩))
  rename_i hh; clear hh
  clear u1 v0 v1 u1' v0' v1' f' k'
  replace K0 := ((K0.alloc (.cells #[.int .u64 (R4 / 18446744073709551616), .int .u64 (R4 % 18446744073709551616)] 89)).setOther (Ne.symm hz0) 0 (.int .u64 (R0 % 2251799813685248 + R4 / 2251799813685248 * 19))).drew
  replace K1 := ((K1.alloc (.cells #[.int .u64 (R4 / 18446744073709551616), .int .u64 (R4 % 18446744073709551616)] 89)).setOther (Ne.symm hz1) 0 (.int .u64 (R0 % 2251799813685248 + R4 / 2251799813685248 * 19))).drew
  replace K2 := ((K2.alloc (.cells #[.int .u64 (R4 / 18446744073709551616), .int .u64 (R4 % 18446744073709551616)] 89)).setOther (Ne.symm hz2) 0 (.int .u64 (R0 % 2251799813685248 + R4 / 2251799813685248 * 19))).drew
  replace K3 := ((K3.alloc (.cells #[.int .u64 (R4 / 18446744073709551616), .int .u64 (R4 % 18446744073709551616)] 89)).setOther (Ne.symm hz3) 0 (.int .u64 (R0 % 2251799813685248 + R4 / 2251799813685248 * 19))).drew
  replace K4 := ((K4.alloc (.cells #[.int .u64 (R4 / 18446744073709551616), .int .u64 (R4 % 18446744073709551616)] 89)).setOther (Ne.symm hz4) 0 (.int .u64 (R0 % 2251799813685248 + R4 / 2251799813685248 * 19))).drew
  replace HZ := ((HZ.alloc (.cells #[.int .u64 (R4 / 18446744073709551616), .int .u64 (R4 % 18446744073709551616)] 89)).setCell 0 (.int .u64 (R0 % 2251799813685248 + R4 / 2251799813685248 * 19))).drew
  replace GG := gb_drew (gb_set (gb_alloc GG (.cells #[.int .u64 (R4 / 18446744073709551616), .int .u64 (R4 % 18446744073709551616)] 89)) 0 (.int .u64 (R0 % 2251799813685248 + R4 / 2251799813685248 * 19)))
  generalize ((W.alloc (.cells #[.int .u64 (R4 / 18446744073709551616), .int .u64 (R4 % 18446744073709551616)] 89)).setCell ⟨z, 0, none⟩ (.int .u64 (R0 % 2251799813685248 + R4 / 2251799813685248 * 19))).drew = W1 at *
  go_wp2_with fail
  have s1 : IntKind.u64.wrap (R1 % 2251799813685248 + R0 / 2251799813685248) = R1 % 2251799813685248 + R0 / 2251799813685248 := wr _ (by omega) (by omega)
  have u1 := K1.cell 1; have v0 := K0.cell 0; have v1 := K0.cell 1
  have u1' := fun o => (K1.alloc o).cell 1; have v0' := fun o => (K0.alloc o).cell 0; have v1' := fun o => (K0.alloc o).cell 1; have f' := fun o => (HZ.alloc o).frozen 1; have k' := fun o => (HZ.alloc o).cell 1
  simp at u1 v0 v1 u1' v0' v1' k'
  go_region_held3 (fun w' => w'.cell? ⟨r1, 1, none⟩ = some (.int .u64 (R1 % 18446744073709551616)) ∧ w'.cell? ⟨r0, 0, none⟩ = some (.int .u64 (R0 / 18446744073709551616)) ∧ w'.cell? ⟨r0, 1, none⟩ = some (.int .u64 (R0 % 18446744073709551616))) (simp [*, go_sem]) (first | (go_at_call 76; refine (over_any R0 qa0 (by omega) _).mono ?_; rintro e w' ⟨rfl, rfl⟩))
  rename_i hh; clear hh
  clear u1 v0 v1 u1' v0' v1' f' k'
  replace K0 := ((K0.alloc (.cells #[.int .u64 (R0 / 18446744073709551616), .int .u64 (R0 % 18446744073709551616)] 89)).setOther (Ne.symm hz0) 1 (.int .u64 (R1 % 2251799813685248 + R0 / 2251799813685248))).drew
  replace K1 := ((K1.alloc (.cells #[.int .u64 (R0 / 18446744073709551616), .int .u64 (R0 % 18446744073709551616)] 89)).setOther (Ne.symm hz1) 1 (.int .u64 (R1 % 2251799813685248 + R0 / 2251799813685248))).drew
  replace K2 := ((K2.alloc (.cells #[.int .u64 (R0 / 18446744073709551616), .int .u64 (R0 % 18446744073709551616)] 89)).setOther (Ne.symm hz2) 1 (.int .u64 (R1 % 2251799813685248 + R0 / 2251799813685248))).drew
  replace K3 := ((K3.alloc (.cells #[.int .u64 (R0 / 18446744073709551616), .int .u64 (R0 % 18446744073709551616)] 89)).setOther (Ne.symm hz3) 1 (.int .u64 (R1 % 2251799813685248 + R0 / 2251799813685248))).drew
  replace K4 := ((K4.alloc (.cells #[.int .u64 (R0 / 18446744073709551616), .int .u64 (R0 % 18446744073709551616)] 89)).setOther (Ne.symm hz4) 1 (.int .u64 (R1 % 2251799813685248 + R0 / 2251799813685248))).drew
  replace HZ := ((HZ.alloc (.cells #[.int .u64 (R0 / 18446744073709551616), .int .u64 (R0 % 18446744073709551616)] 89)).setCell 1 (.int .u64 (R1 % 2251799813685248 + R0 / 2251799813685248))).drew
  replace GG := gb_drew (gb_set (gb_alloc GG (.cells #[.int .u64 (R0 / 18446744073709551616), .int .u64 (R0 % 18446744073709551616)] 89)) 1 (.int .u64 (R1 % 2251799813685248 + R0 / 2251799813685248)))
  generalize ((W1.alloc (.cells #[.int .u64 (R0 / 18446744073709551616), .int .u64 (R0 % 18446744073709551616)] 89)).setCell ⟨z, 1, none⟩ (.int .u64 (R1 % 2251799813685248 + R0 / 2251799813685248))).drew = W2 at *
  go_wp2_with fail
  have s2 : IntKind.u64.wrap (R2 % 2251799813685248 + R1 / 2251799813685248) = R2 % 2251799813685248 + R1 / 2251799813685248 := wr _ (by omega) (by omega)
  have u1 := K2.cell 1; have v0 := K1.cell 0; have v1 := K1.cell 1
  have u1' := fun o => (K2.alloc o).cell 1; have v0' := fun o => (K1.alloc o).cell 0; have v1' := fun o => (K1.alloc o).cell 1; have f' := fun o => (HZ.alloc o).frozen 2; have k' := fun o => (HZ.alloc o).cell 2
  simp at u1 v0 v1 u1' v0' v1' k'
  go_region_held3 (fun w' => w'.cell? ⟨r2, 1, none⟩ = some (.int .u64 (R2 % 18446744073709551616)) ∧ w'.cell? ⟨r1, 0, none⟩ = some (.int .u64 (R1 / 18446744073709551616)) ∧ w'.cell? ⟨r1, 1, none⟩ = some (.int .u64 (R1 % 18446744073709551616))) (simp [*, go_sem]) (first | (go_at_call 76; refine (over_any R1 qa1 (by omega) _).mono ?_; rintro e w' ⟨rfl, rfl⟩))
  rename_i hh; clear hh
  clear u1 v0 v1 u1' v0' v1' f' k'
  replace K0 := ((K0.alloc (.cells #[.int .u64 (R1 / 18446744073709551616), .int .u64 (R1 % 18446744073709551616)] 89)).setOther (Ne.symm hz0) 2 (.int .u64 (R2 % 2251799813685248 + R1 / 2251799813685248))).drew
  replace K1 := ((K1.alloc (.cells #[.int .u64 (R1 / 18446744073709551616), .int .u64 (R1 % 18446744073709551616)] 89)).setOther (Ne.symm hz1) 2 (.int .u64 (R2 % 2251799813685248 + R1 / 2251799813685248))).drew
  replace K2 := ((K2.alloc (.cells #[.int .u64 (R1 / 18446744073709551616), .int .u64 (R1 % 18446744073709551616)] 89)).setOther (Ne.symm hz2) 2 (.int .u64 (R2 % 2251799813685248 + R1 / 2251799813685248))).drew
  replace K3 := ((K3.alloc (.cells #[.int .u64 (R1 / 18446744073709551616), .int .u64 (R1 % 18446744073709551616)] 89)).setOther (Ne.symm hz3) 2 (.int .u64 (R2 % 2251799813685248 + R1 / 2251799813685248))).drew
  replace K4 := ((K4.alloc (.cells #[.int .u64 (R1 / 18446744073709551616), .int .u64 (R1 % 18446744073709551616)] 89)).setOther (Ne.symm hz4) 2 (.int .u64 (R2 % 2251799813685248 + R1 / 2251799813685248))).drew
  replace HZ := ((HZ.alloc (.cells #[.int .u64 (R1 / 18446744073709551616), .int .u64 (R1 % 18446744073709551616)] 89)).setCell 2 (.int .u64 (R2 % 2251799813685248 + R1 / 2251799813685248))).drew
  replace GG := gb_drew (gb_set (gb_alloc GG (.cells #[.int .u64 (R1 / 18446744073709551616), .int .u64 (R1 % 18446744073709551616)] 89)) 2 (.int .u64 (R2 % 2251799813685248 + R1 / 2251799813685248)))
  generalize ((W2.alloc (.cells #[.int .u64 (R1 / 18446744073709551616), .int .u64 (R1 % 18446744073709551616)] 89)).setCell ⟨z, 2, none⟩ (.int .u64 (R2 % 2251799813685248 + R1 / 2251799813685248))).drew = W3 at *
  go_wp2_with fail
  have s3 : IntKind.u64.wrap (R3 % 2251799813685248 + R2 / 2251799813685248) = R3 % 2251799813685248 + R2 / 2251799813685248 := wr _ (by omega) (by omega)
  have u1 := K3.cell 1; have v0 := K2.cell 0; have v1 := K2.cell 1
  have u1' := fun o => (K3.alloc o).cell 1; have v0' := fun o => (K2.alloc o).cell 0; have v1' := fun o => (K2.alloc o).cell 1; have f' := fun o => (HZ.alloc o).frozen 3; have k' := fun o => (HZ.alloc o).cell 3
  simp at u1 v0 v1 u1' v0' v1' k'
  go_region_held3 (fun w' => w'.cell? ⟨r3, 1, none⟩ = some (.int .u64 (R3 % 18446744073709551616)) ∧ w'.cell? ⟨r2, 0, none⟩ = some (.int .u64 (R2 / 18446744073709551616)) ∧ w'.cell? ⟨r2, 1, none⟩ = some (.int .u64 (R2 % 18446744073709551616))) (simp [*, go_sem]) (first | (go_at_call 76; refine (over_any R2 qa2 (by omega) _).mono ?_; rintro e w' ⟨rfl, rfl⟩))
  rename_i hh; clear hh
  clear u1 v0 v1 u1' v0' v1' f' k'
  replace K0 := ((K0.alloc (.cells #[.int .u64 (R2 / 18446744073709551616), .int .u64 (R2 % 18446744073709551616)] 89)).setOther (Ne.symm hz0) 3 (.int .u64 (R3 % 2251799813685248 + R2 / 2251799813685248))).drew
  replace K1 := ((K1.alloc (.cells #[.int .u64 (R2 / 18446744073709551616), .int .u64 (R2 % 18446744073709551616)] 89)).setOther (Ne.symm hz1) 3 (.int .u64 (R3 % 2251799813685248 + R2 / 2251799813685248))).drew
  replace K2 := ((K2.alloc (.cells #[.int .u64 (R2 / 18446744073709551616), .int .u64 (R2 % 18446744073709551616)] 89)).setOther (Ne.symm hz2) 3 (.int .u64 (R3 % 2251799813685248 + R2 / 2251799813685248))).drew
  replace K3 := ((K3.alloc (.cells #[.int .u64 (R2 / 18446744073709551616), .int .u64 (R2 % 18446744073709551616)] 89)).setOther (Ne.symm hz3) 3 (.int .u64 (R3 % 2251799813685248 + R2 / 2251799813685248))).drew
  replace K4 := ((K4.alloc (.cells #[.int .u64 (R2 / 18446744073709551616), .int .u64 (R2 % 18446744073709551616)] 89)).setOther (Ne.symm hz4) 3 (.int .u64 (R3 % 2251799813685248 + R2 / 2251799813685248))).drew
  replace HZ := ((HZ.alloc (.cells #[.int .u64 (R2 / 18446744073709551616), .int .u64 (R2 % 18446744073709551616)] 89)).setCell 3 (.int .u64 (R3 % 2251799813685248 + R2 / 2251799813685248))).drew
  replace GG := gb_drew (gb_set (gb_alloc GG (.cells #[.int .u64 (R2 / 18446744073709551616), .int .u64 (R2 % 18446744073709551616)] 89)) 3 (.int .u64 (R3 % 2251799813685248 + R2 / 2251799813685248)))
  generalize ((W3.alloc (.cells #[.int .u64 (R2 / 18446744073709551616), .int .u64 (R2 % 18446744073709551616)] 89)).setCell ⟨z, 3, none⟩ (.int .u64 (R3 % 2251799813685248 + R2 / 2251799813685248))).drew = W4 at *
  go_wp2_with fail
  have s4 : IntKind.u64.wrap (R4 % 2251799813685248 + R3 / 2251799813685248) = R4 % 2251799813685248 + R3 / 2251799813685248 := wr _ (by omega) (by omega)
  have u1 := K4.cell 1; have v0 := K3.cell 0; have v1 := K3.cell 1
  have u1' := fun o => (K4.alloc o).cell 1; have v0' := fun o => (K3.alloc o).cell 0; have v1' := fun o => (K3.alloc o).cell 1; have f' := fun o => (HZ.alloc o).frozen 4; have k' := fun o => (HZ.alloc o).cell 4
  simp at u1 v0 v1 u1' v0' v1' k'
  go_region_held3 (fun w' => w'.cell? ⟨r4, 1, none⟩ = some (.int .u64 (R4 % 18446744073709551616)) ∧ w'.cell? ⟨r3, 0, none⟩ = some (.int .u64 (R3 / 18446744073709551616)) ∧ w'.cell? ⟨r3, 1, none⟩ = some (.int .u64 (R3 % 18446744073709551616))) (simp [*, go_sem]) (first | (go_at_call 76; refine (over_any R3 qa3 (by omega) _).mono ?_; rintro e w' ⟨rfl, rfl⟩))
  rename_i hh; clear hh
  clear u1 v0 v1 u1' v0' v1' f' k'
  replace K0 := ((K0.alloc (.cells #[.int .u64 (R3 / 18446744073709551616), .int .u64 (R3 % 18446744073709551616)] 89)).setOther (Ne.symm hz0) 4 (.int .u64 (R4 % 2251799813685248 + R3 / 2251799813685248))).drew
  replace K1 := ((K1.alloc (.cells #[.int .u64 (R3 / 18446744073709551616), .int .u64 (R3 % 18446744073709551616)] 89)).setOther (Ne.symm hz1) 4 (.int .u64 (R4 % 2251799813685248 + R3 / 2251799813685248))).drew
  replace K2 := ((K2.alloc (.cells #[.int .u64 (R3 / 18446744073709551616), .int .u64 (R3 % 18446744073709551616)] 89)).setOther (Ne.symm hz2) 4 (.int .u64 (R4 % 2251799813685248 + R3 / 2251799813685248))).drew
  replace K3 := ((K3.alloc (.cells #[.int .u64 (R3 / 18446744073709551616), .int .u64 (R3 % 18446744073709551616)] 89)).setOther (Ne.symm hz3) 4 (.int .u64 (R4 % 2251799813685248 + R3 / 2251799813685248))).drew
  replace K4 := ((K4.alloc (.cells #[.int .u64 (R3 / 18446744073709551616), .int .u64 (R3 % 18446744073709551616)] 89)).setOther (Ne.symm hz4) 4 (.int .u64 (R4 % 2251799813685248 + R3 / 2251799813685248))).drew
  replace HZ := ((HZ.alloc (.cells #[.int .u64 (R3 / 18446744073709551616), .int .u64 (R3 % 18446744073709551616)] 89)).setCell 4 (.int .u64 (R4 % 2251799813685248 + R3 / 2251799813685248))).drew
  replace GG := gb_drew (gb_set (gb_alloc GG (.cells #[.int .u64 (R3 / 18446744073709551616), .int .u64 (R3 % 18446744073709551616)] 89)) 4 (.int .u64 (R4 % 2251799813685248 + R3 / 2251799813685248)))
  generalize ((W4.alloc (.cells #[.int .u64 (R3 / 18446744073709551616), .int .u64 (R3 % 18446744073709551616)] 89)).setCell ⟨z, 4, none⟩ (.int .u64 (R4 % 2251799813685248 + R3 / 2251799813685248))).drew = W5 at *
  go_wp2_with fail
  have HN : NumAt W5 z (R0 % 2251799813685248 + R4 / 2251799813685248 * 19) (R1 % 2251799813685248 + R0 / 2251799813685248) (R2 % 2251799813685248 + R1 / 2251799813685248) (R3 % 2251799813685248 + R2 / 2251799813685248) (R4 % 2251799813685248 + R3 / 2251799813685248) := Blk.to HZ (by simp)
  refine (carry_ex z (R0 % 2251799813685248 + R4 / 2251799813685248 * 19) (R1 % 2251799813685248 + R0 / 2251799813685248) (R2 % 2251799813685248 + R1 / 2251799813685248) (R3 % 2251799813685248 + R2 / 2251799813685248) (R4 % 2251799813685248 + R3 / 2251799813685248) W5 HN ⟨by omega, by omega⟩ ⟨by omega, by omega⟩ ⟨by omega, by omega⟩ ⟨by omega, by omega⟩ ⟨by omega, by omega⟩).mono ?_
  rintro e w' ⟨rfl, y0, y1, y2, y3, y4, hn, hg, hl, hv, _, _⟩
  go_wp2
  go_end0
  refine ⟨rfl, y0, y1, y2, y3, y4, hn, gb_trans GG hg, hl, ?_⟩
  rw [hv, carry_val, Int.sub_mul_emod_self_left, E0.out, E1.out, E2.out, E3.out, E4.out, mul_val, Int.sub_mul_emod_self_left]
end Go.Proofs.Ytialljmkkichiab
