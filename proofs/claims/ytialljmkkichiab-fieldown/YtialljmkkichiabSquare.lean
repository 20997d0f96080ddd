/- (*number).square: the limbs of the product. -/
import Derived.Test.YtialljmkkichiabCarry
import Derived.Test.YtialljmkkichiabWide
import Derived.Deep.RegionHeld3
set_option linter.unusedVariables false
set_option linter.unusedSimpArgs false
set_option linter.unnecessarySimpa false
namespace Go.Proofs.Ytialljmkkichiab
open Go.RowKit N

set_option maxHeartbeats 16000000 in
set_option maxRecDepth 100000 in
theorem square_any (z x : Nat) (a0 a1 a2 a3 a4 c0 c1 c2 c3 c4 : Int) (w : World) (hz : NumAt w z c0 c1 c2 c3 c4) (hx : NumAt w x a0 a1 a2 a3 a4) (la0 : Lo a0) (la1 : Lo a1) (la2 : Lo a2) (la3 : Lo a3) (la4 : Lo a4) :
    Calls Try.prog 43 #[.pointer (some ⟨z, 0, none⟩), .pointer (some ⟨x, 0, none⟩)] w fun e w' => e = .returned (.tuple #[]) ∧
      ∃ y0 y1 y2 y3 y4 : Int, NumAt w' z y0 y1 y2 y3 y4 ∧ w.grownBy w' (some z) ∧ (Lo y0 ∧ Lo y1 ∧ Lo y2 ∧ Lo y3 ∧ Lo y4) ∧ V y0 y1 y2 y3 y4 % P = V a0 a1 a2 a3 a4 * V a0 a1 a2 a3 a4 % P := by
  have ka0 := hx.cell 0; have ka1 := hx.cell 1; have ka2 := hx.cell 2; have ka3 := hx.cell 3; have ka4 := hx.cell 4
  simp at ka0 ka1 ka2 ka3 ka4
  have hzlt := hz.lt
  have HZ : Blk w z #[.int .u64 c0, .int .u64 c1, .int .u64 c2, .int .u64 c3, .int .u64 c4] 79 := hz
  have ua0 := la0.1; have va0 : a0 < 4503599627370496 := la0.2
  have ua1 := la1.1; have va1 : a1 < 4503599627370496 := la1.2
  have ua2 := la2.1; have va2 : a2 < 4503599627370496 := la2.2
  have ua3 := la3.1; have va3 : a3 < 4503599627370496 := la3.2
  have ua4 := la4.1; have va4 : a4 < 4503599627370496 := la4.2
  go_enter Try.func43, Try.ntmps43
  go_wp2_with fail
  go_quiet (fail)
  clear ka0 ka1 ka2 ka3 ka4 hx hz
  go_wp2_with fail
  refine (product_b (a0) a0 _ (by omega) (by omega) (by omega) (by omega) (pb1 la0 la0) _).mono ?_
  rintro e w1 ⟨m00, Hm00, pm00, rfl, g1⟩
  have G1 : w.grownBy w1 none := gb_trans (by (repeat (first | with_reducible exact gb_refl _ _ | with_reducible assumption | with_reducible apply gb_drew | with_reducible apply gb_drewN | with_reducible apply gb_set | with_reducible apply gb_alloc))) g1
  replace HZ := Blk.grown (w' := w1) HZ G1 (by simp)
  clear g1
  go_wp2_with fail
  refine (plus_b m00 (a1 * 38) a4 _ _ pm00.1 pm00.2 (by omega) (by omega) (by omega) (by omega) (pbk 38 (by decide) la1 la4) (by decide) _).mono ?_
  rintro e w2 ⟨m01, Hm01, pm01, rfl, g2⟩
  have G2 := gb_trans G1 g2
  replace HZ := HZ.grown g2 (by simp)
  clear G1
  clear g2
  go_wp2_with fail
  refine (plus_b m01 (a2 * 38) a3 _ _ pm01.1 pm01.2 (by omega) (by omega) (by omega) (by omega) (pbk 38 (by decide) la2 la3) (by decide) _).mono ?_
  rintro e w3 ⟨m02, Hm02, pm02, rfl, g3⟩
  have G3 := gb_trans G2 g3
  replace HZ := HZ.grown g3 (by simp)
  clear G2
  have gs0 := G3.size
  clear g3
  go_wp2_with fail
  refine (product_b (a0 * 2) a1 _ (by omega) (by omega) (by omega) (by omega) (pbk 2 (by decide) la0 la1) _).mono ?_
  rintro e w4 ⟨m10, Hm10, pm10, rfl, g4⟩
  have K0 := (Blk.new w3 #[.int .u64 (m02 / 18446744073709551616), .int .u64 (m02 % 18446744073709551616)] 89).grown g4 (by simp)
  have G4 := gb_trans (gb_alloc G3 _) g4
  replace HZ := (HZ.alloc (.cells #[.int .u64 (m02 / 18446744073709551616), .int .u64 (m02 % 18446744073709551616)] 89)).grown g4 (by simp)
  clear G3
  clear g4
  go_wp2_with fail
  refine (plus_b m10 (a2 * 38) a4 _ _ pm10.1 pm10.2 (by omega) (by omega) (by omega) (by omega) (pbk 38 (by decide) la2 la4) (by decide) _).mono ?_
  rintro e w5 ⟨m11, Hm11, pm11, rfl, g5⟩
  replace K0 := K0.grown g5 (by simp)
  have G5 := gb_trans G4 g5
  replace HZ := HZ.grown g5 (by simp)
  clear G4
  clear g5
  go_wp2_with fail
  refine (plus_b m11 (a3 * 19) a3 _ _ pm11.1 pm11.2 (by omega) (by omega) (by omega) (by omega) (pbk 19 (by decide) la3 la3) (by decide) _).mono ?_
  rintro e w6 ⟨m12, Hm12, pm12, rfl, g6⟩
  replace K0 := K0.grown g6 (by simp)
  have G6 := gb_trans G5 g6
  replace HZ := HZ.grown g6 (by simp)
  clear G5
  have gs1 := G6.size
  clear g6
  go_wp2_with fail
  refine (product_b (a0 * 2) a2 _ (by omega) (by omega) (by omega) (by omega) (pbk 2 (by decide) la0 la2) _).mono ?_
  rintro e w7 ⟨m20, Hm20, pm20, rfl, g7⟩
  have K1 := (Blk.new w6 #[.int .u64 (m12 / 18446744073709551616), .int .u64 (m12 % 18446744073709551616)] 89).grown g7 (by simp)
  replace K0 := (K0.alloc (.cells #[.int .u64 (m12 / 18446744073709551616), .int .u64 (m12 % 18446744073709551616)] 89)).grown g7 (by simp)
  have G7 := gb_trans (gb_alloc G6 _) g7
  replace HZ := (HZ.alloc (.cells #[.int .u64 (m12 / 18446744073709551616), .int .u64 (m12 % 18446744073709551616)] 89)).grown g7 (by simp)
  clear G6
  clear g7
  go_wp2_with fail
  refine (plus_b m20 (a1) a1 _ _ pm20.1 pm20.2 (by omega) (by omega) (by omega) (by omega) (pb1 la1 la1) (by decide) _).mono ?_
  rintro e w8 ⟨m21, Hm21, pm21, rfl, g8⟩
  replace K0 := K0.grown g8 (by simp)
  replace K1 := K1.grown g8 (by simp)
  have G8 := gb_trans G7 g8
  replace HZ := HZ.grown g8 (by simp)
  clear G7
  clear g8
  go_wp2_with fail
  refine (plus_b m21 (a3 * 38) a4 _ _ pm21.1 pm21.2 (by omega) (by omega) (by omega) (by omega) (pbk 38 (by decide) la3 la4) (by decide) _).mono ?_
  rintro e w9 ⟨m22, Hm22, pm22, rfl, g9⟩
  replace K0 := K0.grown g9 (by simp)
  replace K1 := K1.grown g9 (by simp)
  have G9 := gb_trans G8 g9
  replace HZ := HZ.grown g9 (by simp)
  clear G8
  have gs2 := G9.size
  clear g9
  go_wp2_with fail
  refine (product_b (a0 * 2) a3 _ (by omega) (by omega) (by omega) (by omega) (pbk 2 (by decide) la0 la3) _).mono ?_
  rintro e w10 ⟨m30, Hm30, pm30, rfl, g10⟩
  have K2 := (Blk.new w9 #[.int .u64 (m22 / 18446744073709551616), .int .u64 (m22 % 18446744073709551616)] 89).grown g10 (by simp)
  replace K0 := (K0.alloc (.cells #[.int .u64 (m22 / 18446744073709551616), .int .u64 (m22 % 18446744073709551616)] 89)).grown g10 (by simp)
  replace K1 := (K1.alloc (.cells #[.int .u64 (m22 / 18446744073709551616), .int .u64 (m22 % 18446744073709551616)] 89)).grown g10 (by simp)
  have G10 := gb_trans (gb_alloc G9 _) g10
  replace HZ := (HZ.alloc (.cells #[.int .u64 (m22 / 18446744073709551616), .int .u64 (m22 % 18446744073709551616)] 89)).grown g10 (by simp)
  clear G9
  clear g10
  go_wp2_with fail
  refine (plus_b m30 (a1 * 2) a2 _ _ pm30.1 pm30.2 (by omega) (by omega) (by omega) (by omega) (pbk 2 (by decide) la1 la2) (by decide) _).mono ?_
  rintro e w11 ⟨m31, Hm31, pm31, rfl, g11⟩
  replace K0 := K0.grown g11 (by simp)
  replace K1 := K1.grown g11 (by simp)
  replace K2 := K2.grown g11 (by simp)
  have G11 := gb_trans G10 g11
  replace HZ := HZ.grown g11 (by simp)
  clear G10
  clear g11
  go_wp2_with fail
  refine (plus_b m31 (a4 * 19) a4 _ _ pm31.1 pm31.2 (by omega) (by omega) (by omega) (by omega) (pbk 19 (by decide) la4 la4) (by decide) _).mono ?_
  rintro e w12 ⟨m32, Hm32, pm32, rfl, g12⟩
  replace K0 := K0.grown g12 (by simp)
  replace K1 := K1.grown g12 (by simp)
  replace K2 := K2.grown g12 (by simp)
  have G12 := gb_trans G11 g12
  replace HZ := HZ.grown g12 (by simp)
  clear G11
  have gs3 := G12.size
  clear g12
  go_wp2_with fail
  refine (product_b (a0 * 2) a4 _ (by omega) (by omega) (by omega) (by omega) (pbk 2 (by decide) la0 la4) _).mono ?_
  rintro e w13 ⟨m40, Hm40, pm40, rfl, g13⟩
  have K3 := (Blk.new w12 #[.int .u64 (m32 / 18446744073709551616), .int .u64 (m32 % 18446744073709551616)] 89).grown g13 (by simp)
  replace K0 := (K0.alloc (.cells #[.int .u64 (m32 / 18446744073709551616), .int .u64 (m32 % 18446744073709551616)] 89)).grown g13 (by simp)
  replace K1 := (K1.alloc (.cells #[.int .u64 (m32 / 18446744073709551616), .int .u64 (m32 % 18446744073709551616)] 89)).grown g13 (by simp)
  replace K2 := (K2.alloc (.cells #[.int .u64 (m32 / 18446744073709551616), .int .u64 (m32 % 18446744073709551616)] 89)).grown g13 (by simp)
  have G13 := gb_trans (gb_alloc G12 _) g13
  replace HZ := (HZ.alloc (.cells #[.int .u64 (m32 / 18446744073709551616), .int .u64 (m32 % 18446744073709551616)] 89)).grown g13 (by simp)
  clear G12
  clear g13
  go_wp2_with fail
  refine (plus_b m40 (a1 * 2) a3 _ _ pm40.1 pm40.2 (by omega) (by omega) (by omega) (by omega) (pbk 2 (by decide) la1 la3) (by decide) _).mono ?_
  rintro e w14 ⟨m41, Hm41, pm41, rfl, g14⟩
  replace K0 := K0.grown g14 (by simp)
  replace K1 := K1.grown g14 (by simp)
  replace K2 := K2.grown g14 (by simp)
  replace K3 := K3.grown g14 (by simp)
  have G14 := gb_trans G13 g14
  replace HZ := HZ.grown g14 (by simp)
  clear G13
  clear g14
  go_wp2_with fail
  refine (plus_b m41 (a2) a2 _ _ pm41.1 pm41.2 (by omega) (by omega) (by omega) (by omega) (pb1 la2 la2) (by decide) _).mono ?_
  rintro e w15 ⟨m42, Hm42, pm42, rfl, g15⟩
  replace K0 := K0.grown g15 (by simp)
  replace K1 := K1.grown g15 (by simp)
  replace K2 := K2.grown g15 (by simp)
  replace K3 := K3.grown g15 (by simp)
  have G15 := gb_trans G14 g15
  replace HZ := HZ.grown g15 (by simp)
  clear G14
  have gs4 := G15.size
  clear g15
  go_wp2_with fail
  have K4 := Blk.new w15 #[.int .u64 (m42 / 18446744073709551616), .int .u64 (m42 % 18446744073709551616)] 89
  replace K0 := K0.alloc (.cells #[.int .u64 (m42 / 18446744073709551616), .int .u64 (m42 % 18446744073709551616)] 89)
  replace K1 := K1.alloc (.cells #[.int .u64 (m42 / 18446744073709551616), .int .u64 (m42 % 18446744073709551616)] 89)
  replace K2 := K2.alloc (.cells #[.int .u64 (m42 / 18446744073709551616), .int .u64 (m42 % 18446744073709551616)] 89)
  replace K3 := K3.alloc (.cells #[.int .u64 (m42 / 18446744073709551616), .int .u64 (m42 % 18446744073709551616)] 89)
  replace HZ := HZ.alloc (.cells #[.int .u64 (m42 / 18446744073709551616), .int .u64 (m42 % 18446744073709551616)] 89)
  have GG := gb_alloc G15 (.cells #[.int .u64 (m42 / 18446744073709551616), .int .u64 (m42 % 18446744073709551616)] 89)
  clear G15
  have E0 : Hid (m02 = a0 * a0 + a1 * 38 * a4 + a2 * 38 * a3) := by show _ = _; rw [Hm02.out, Hm01.out, Hm00.out]
  have q0 : 0 ≤ m02 ∧ m02 ≤ 1561745539481177929089595733966925 := ⟨pm02.1, by have := pm02.2; omega⟩
  have E1 : Hid (m12 = a0 * 2 * a1 + a2 * 38 * a4 + a3 * 19 * a3) := by show _ = _; rw [Hm12.out, Hm11.out, Hm10.out]
  have q1 : 0 ≤ m12 ∧ m12 ≤ 1196662166615448023588131796156475 := ⟨pm12.1, by have := pm12.2; omega⟩
  have E2 : Hid (m22 = a0 * 2 * a2 + a1 * a1 + a3 * 38 * a4) := by show _ = _; rw [Hm22.out, Hm21.out, Hm20.out]
  have q2 : 0 ≤ m22 ∧ m22 ≤ 831578793749718118086667858346025 := ⟨pm22.1, by have := pm22.2; omega⟩
  have E3 : Hid (m32 = a0 * 2 * a3 + a1 * 2 * a2 + a4 * 19 * a4) := by show _ = _; rw [Hm32.out, Hm31.out, Hm30.out]
  have q3 : 0 ≤ m32 ∧ m32 ≤ 466495420883988212585203920535575 := ⟨pm32.1, by have := pm32.2; omega⟩
  have E4 : Hid (m42 = a0 * 2 * a4 + a1 * 2 * a3 + a2 * a2) := by show _ = _; rw [Hm42.out, Hm41.out, Hm40.out]
  have q4 : 0 ≤ m42 ∧ m42 ≤ 101412048018258307083739982725125 := ⟨pm42.1, by have := pm42.2; omega⟩
  clear Hm00 pm00 Hm01 pm01 Hm02 pm02 Hm10 pm10 Hm11 pm11 Hm12 pm12 Hm20 pm20 Hm21 pm21 Hm22 pm22 Hm30 pm30 Hm31 pm31 Hm32 pm32 Hm40 pm40 Hm41 pm41 Hm42 pm42
  obtain ⟨qa0, qb0⟩ := q0; obtain ⟨qa1, qb1⟩ := q1; obtain ⟨qa2, qb2⟩ := q2; obtain ⟨qa3, qb3⟩ := q3; obtain ⟨qa4, qb4⟩ := q4
  have hz0 : z ≠ w3.heap.size := by have h1 := hzlt; have h2 := gs0; omega
  generalize w3.heap.size = r0 at *
  have hz1 : z ≠ w6.heap.size := by have h1 := hzlt; have h2 := gs1; omega
  generalize w6.heap.size = r1 at *
  have hz2 : z ≠ w9.heap.size := by have h1 := hzlt; have h2 := gs2; omega
  generalize w9.heap.size = r2 at *
  have hz3 : z ≠ w12.heap.size := by have h1 := hzlt; have h2 := gs3; omega
  generalize w12.heap.size = r3 at *
  have hz4 : z ≠ w15.heap.size := by have h1 := hzlt; have h2 := gs4; omega
  generalize w15.heap.size = r4 at *
  generalize w15.alloc (.cells #[.int .u64 (m42 / 18446744073709551616), .int .u64 (m42 % 18446744073709551616)] 89) = W at *
  generalize m02 = R0 at *
  generalize m12 = R1 at *
  generalize m22 = R2 at *
  generalize m32 = R3 at *
  generalize m42 = R4 at *
  have m0 : bits .and .u64 (R0 % 18446744073709551616) 2251799813685247 = R0 % 2251799813685248 := (and51 _ (by omega) (by omega)).trans (by omega)
  have m1 : bits .and .u64 (R1 % 18446744073709551616) 2251799813685247 = R1 % 2251799813685248 := (and51 _ (by omega) (by omega)).trans (by omega)
  have m2 : bits .and .u64 (R2 % 18446744073709551616) 2251799813685247 = R2 % 2251799813685248 := (and51 _ (by omega) (by omega)).trans (by omega)
  have m3 : bits .and .u64 (R3 % 18446744073709551616) 2251799813685247 = R3 % 2251799813685248 := (and51 _ (by omega) (by omega)).trans (by omega)
  have m4 : bits .and .u64 (R4 % 18446744073709551616) 2251799813685247 = R4 % 2251799813685248 := (and51 _ (by omega) (by omega)).trans (by omega)
  replace GG := gb_none GG (some z)
  have t0 : IntKind.u64.wrap (R4 / 2251799813685248 * 19) = R4 / 2251799813685248 * 19 := wr _ (by omega) (by omega)
  have s0 : IntKind.u64.wrap (R0 % 2251799813685248 + R4 / 2251799813685248 * 19) = R0 % 2251799813685248 + R4 / 2251799813685248 * 19 := wr _ (by omega) (by omega)
  have u1 := K0.cell 1; have v0 := K4.cell 0; have v1 := K4.cell 1
  have u1' := fun o => (K0.alloc o).cell 1; have v0' := fun o => (K4.alloc o).cell 0; have v1' := fun o => (K4.alloc o).cell 1; have f' := fun o => (HZ.alloc o).frozen 0; have k' := fun o => (HZ.alloc o).cell 0
  simp at u1 v0 v1 u1' v0' v1' k'
  go_region_held3 (fun w' => w'.cell? ⟨r0, 1, none⟩ = some (.int .u64 (R0 % 18446744073709551616)) ∧ w'.cell? ⟨r4, 0, none⟩ = some (.int .u64 (R4 / 18446744073709551616)) ∧ w'.cell? ⟨r4, 1, none⟩ = some (.int .u64 (R4 % 18446744073709551616))) (simp [*, go_sem]) (first | (go_at_call 76; refine (over_any R4 qa4 (by omega) _).mono ?_; rintro e w' ⟨rfl, rfl⟩))
  rename_i hh; clear hh
  clear u1 v0 v1 u1' v0' v1' f' k'
  replace K0 := ((K0.alloc (.cells #[.int .u64 (R4 / 18446744073709551616), .int .u64 (R4 % 18446744073709551616)] 89)).setOther (Ne.symm hz0) 0 (.int .u64 (R0 % 2251799813685248 + R4 / 2251799813685248 * 19))).drew
  replace K1 := ((K1.alloc (.cells #[.int .u64 (R4 / 18446744073709551616), .int .u64 (R4 % 18446744073709551616)] 89)).setOther (Ne.symm hz1) 0 (.int .u64 (R0 % 2251799813685248 + R4 / 2251799813685248 * 19))).drew
  replace K2 := ((K2.alloc (.cells #[.int .u64 (R4 / 18446744073709551616), .int .u64 (R4 % 18446744073709551616)] 89)).setOther (Ne.symm hz2) 0 (.int .u64 (R0 % 2251799813685248 + R4 / 2251799813685248 * 19))).drew
  replace K3 := ((K3.alloc (.cells #[.int .u64 (R4 / 18446744073709551616), .int .u64 (R4 % 18446744073709551616)] 89)).setOther (Ne.symm hz3) 0 (.int .u64 (R0 % 2251799813685248 + R4 / 2251799813685248 * 19))).drew
  replace K4 := ((K4.alloc (.cells #[.int .u64 (R4 / 18446744073709551616), .int .u64 (R4 % 18446744073709551616)] 89)).setOther (Ne.symm hz4) 0 (.int .u64 (R0 % 2251799813685248 + R4 / 2251799813685248 * 19))).drew
  replace HZ := ((HZ.alloc (.cells #[.int .u64 (R4 / 18446744073709551616), .int .u64 (R4 % 18446744073709551616)] 89)).setCell 0 (.int .u64 (R0 % 2251799813685248 + R4 / 2251799813685248 * 19))).drew
  replace GG := gb_drew (gb_set (gb_alloc GG (.cells #[.int .u64 (R4 / 18446744073709551616), .int .u64 (R4 % 18446744073709551616)] 89)) 0 (.int .u64 (R0 % 2251799813685248 + R4 / 2251799813685248 * 19)))
  generalize ((W.alloc (.cells #[.int .u64 (R4 / 18446744073709551616), .int .u64 (R4 % 18446744073709551616)] 89)).setCell ⟨z, 0, none⟩ (.int .u64 (R0 % 2251799813685248 + R4 / 2251799813685248 * 19))).drew = W1 at *
  go_wp2_with fail
  have s1 : IntKind.u64.wrap (R1 % 2251799813685248 + R0 / 2251799813685248) = R1 % 2251799813685248 + R0 / 2251799813685248 := wr _ (by omega) (by omega)
  have u1 := K1.cell 1; have v0 := K0.cell 0; have v1 := K0.cell 1
  have u1' := fun o => (K1.alloc o).cell 1; have v0' := fun o => (K0.alloc o).cell 0; have v1' := fun o => (K0.alloc o).cell 1; have f' := fun o => (HZ.alloc o).frozen 1; have k' := fun o => (HZ.alloc o).cell 1
  simp at u1 v0 v1 u1' v0' v1' k'
  go_region_held3 (fun w' => w'.cell? ⟨r1, 1, none⟩ = some (.int .u64 (R1 % 18446744073709551616)) ∧ w'.cell? ⟨r0, 0, none⟩ = some (.int .u64 (R0 / 18446744073709551616)) ∧ w'.cell? ⟨r0, 1, none⟩ = some (.int .u64 (R0 % 18446744073709551616))) (simp [*, go_sem]) (first | (go_at_call 76; refine (over_any R0 qa0 (by omega) _).mono ?_; rintro e w' ⟨rfl, rfl⟩))
  rename_i hh; clear hh
  clear u1 v0 v1 u1' v0' v1' f' k'
  replace K0 := ((K0.alloc (.cells #[.int .u64 (R0 / 18446744073709551616), .int .u64 (R0 % 18446744073709551616)] 89)).setOther (Ne.symm hz0) 1 (.int .u64 (R1 % 2251799813685248 + R0 / 2251799813685248))).drew
  replace K1 := ((K1.alloc (.cells #[.int .u64 (R0 / 18446744073709551616), .int .u64 (R0 % 18446744073709551616)] 89)).setOther (Ne.symm hz1) 1 (.int .u64 (R1 % 2251799813685248 + R0 / 2251799813685248))).drew
  replace K2 := ((K2.alloc (.cells #[.int .u64 (R0 / 18446744073709551616), .int .u64 (R0 % 18446744073709551616)] 89)).setOther (Ne.symm hz2) 1 (.int .u64 (R1 % 2251799813685248 + R0 / 2251799813685248))).drew
  replace K3 := ((K3.alloc (.cells #[.int .u64 (R0 / 18446744073709551616), .int .u64 (R0 % 18446744073709551616)] 89)).setOther (Ne.symm hz3) 1 (.int .u64 (R1 % 2251799813685248 + R0 / 2251799813685248))).drew
  replace K4 := ((K4.alloc (.cells #[.int .u64 (R0 / 18446744073709551616), .int .u64 (R0 % 18446744073709551616)] 89)).setOther (Ne.symm hz4) 1 (.int .u64 (R1 % 2251799813685248 + R0 / 2251799813685248))).drew
  replace HZ := ((HZ.alloc (.cells #[.int .u64 (R0 / 18446744073709551616), .int .u64 (R0 % 18446744073709551616)] 89)).setCell 1 (.int .u64 (R1 % 2251799813685248 + R0 / 2251799813685248))).drew
  replace GG := gb_drew (gb_set (gb_alloc GG (.cells #[.int .u64 (R0 / 18446744073709551616), .int .u64 (R0 % 18446744073709551616)] 89)) 1 (.int .u64 (R1 % 2251799813685248 + R0 / 2251799813685248)))
  generalize ((W1.alloc (.cells #[.int .u64 (R0 / 18446744073709551616), .int .u64 (R0 % 18446744073709551616)] 89)).setCell ⟨z, 1, none⟩ (.int .u64 (R1 % 2251799813685248 + R0 / 2251799813685248))).drew = W2 at *
  go_wp2_with fail
  have s2 : IntKind.u64.wrap (R2 % 2251799813685248 + R1 / 2251799813685248) = R2 % 2251799813685248 + R1 / 2251799813685248 := wr _ (by omega) (by omega)
  have u1 := K2.cell 1; have v0 := K1.cell 0; have v1 := K1.cell 1
  have u1' := fun o => (K2.alloc o).cell 1; have v0' := fun o => (K1.alloc o).cell 0; have v1' := fun o => (K1.alloc o).cell 1; have f' := fun o => (HZ.alloc o).frozen 2; have k' := fun o => (HZ.alloc o).cell 2
  simp at u1 v0 v1 u1' v0' v1' k'
  go_region_held3 (fun w' => w'.cell? ⟨r2, 1, none⟩ = some (.int .u64 (R2 % 18446744073709551616)) ∧ w'.cell? ⟨r1, 0, none⟩ = some (.int .u64 (R1 / 18446744073709551616)) ∧ w'.cell? ⟨r1, 1, none⟩ = some (.int .u64 (R1 % 18446744073709551616))) (simp [*, go_sem]) (first | (go_at_call 76; refine (over_any R1 qa1 (by omega) _).mono ?_; rintro e w' ⟨rfl, rfl⟩))
  rename_i hh; clear hh
  clear u1 v0 v1 u1' v0' v1' f' k'
  replace K0 := ((K0.alloc (.cells #[.int .u64 (R1 / 18446744073709551616), .int .u64 (R1 % 18446744073709551616)] 89)).setOther (Ne.symm hz0) 2 (.int .u64 (R2 % 2251799813685248 + R1 / 2251799813685248))).drew
  replace K1 := ((K1.alloc (.cells #[.int .u64 (R1 / 18446744073709551616), .int .u64 (R1 % 18446744073709551616)] 89)).setOther (Ne.symm hz1) 2 (.int .u64 (R2 % 2251799813685248 + R1 / 2251799813685248))).drew
  replace K2 := ((K2.alloc (.cells #[.int .u64 (R1 / 18446744073709551616), .int .u64 (R1 % 18446744073709551616)] 89)).setOther (Ne.symm hz2) 2 (.int .u64 (R2 % 2251799813685248 + R1 / 2251799813685248))).drew
  replace K3 := ((K3.alloc (.cells #[.int .u64 (R1 / 18446744073709551616), .int .u64 (R1 % 18446744073709551616)] 89)).setOther (Ne.symm hz3) 2 (.int .u64 (R2 % 2251799813685248 + R1 / 2251799813685248))).drew
  replace K4 := ((K4.alloc (.cells #[.int .u64 (R1 / 18446744073709551616), .int .u64 (R1 % 18446744073709551616)] 89)).setOther (Ne.symm hz4) 2 (.int .u64 (R2 % 2251799813685248 + R1 / 2251799813685248))).drew
  replace HZ := ((HZ.alloc (.cells #[.int .u64 (R1 / 18446744073709551616), .int .u64 (R1 % 18446744073709551616)] 89)).setCell 2 (.int .u64 (R2 % 2251799813685248 + R1 / 2251799813685248))).drew
  replace GG := gb_drew (gb_set (gb_alloc GG (.cells #[.int .u64 (R1 / 18446744073709551616), .int .u64 (R1 % 18446744073709551616)] 89)) 2 (.int .u64 (R2 % 2251799813685248 + R1 / 2251799813685248)))
  generalize ((W2.alloc (.cells #[.int .u64 (R1 / 18446744073709551616), .int .u64 (R1 % 18446744073709551616)] 89)).setCell ⟨z, 2, none⟩ (.int .u64 (R2 % 2251799813685248 + R1 / 2251799813685248))).drew = W3 at *
  go_wp2_with fail
  have s3 : IntKind.u64.wrap (R3 % 2251799813685248 + R2 / 2251799813685248) = R3 % 2251799813685248 + R2 / 2251799813685248 := wr _ (by omega) (by omega)
  have u1 := K3.cell 1; have v0 := K2.cell 0; have v1 := K2.cell 1
  have u1' := fun o => (K3.alloc o).cell 1; have v0' := fun o => (K2.alloc o).cell 0; have v1' := fun o => (K2.alloc o).cell 1; have f' := fun o => (HZ.alloc o).frozen 3; have k' := fun o => (HZ.alloc o).cell 3
  simp at u1 v0 v1 u1' v0' v1' k'
  go_region_held3 (fun w' => w'.cell? ⟨r3, 1, none⟩ = some (.int .u64 (R3 % 18446744073709551616)) ∧ w'.cell? ⟨r2, 0, none⟩ = some (.int .u64 (R2 / 18446744073709551616)) ∧ w'.cell? ⟨r2, 1, none⟩ = some (.int .u64 (R2 % 18446744073709551616))) (simp [*, go_sem]) (first | (go_at_call 76; refine (over_any R2 qa2 (by omega) _).mono ?_; rintro e w' ⟨rfl, rfl⟩))
  rename_i hh; clear hh
  clear u1 v0 v1 u1' v0' v1' f' k'
  replace K0 := ((K0.alloc (.cells #[.int .u64 (R2 / 18446744073709551616), .int .u64 (R2 % 18446744073709551616)] 89)).setOther (Ne.symm hz0) 3 (.int .u64 (R3 % 2251799813685248 + R2 / 2251799813685248))).drew
  replace K1 := ((K1.alloc (.cells #[.int .u64 (R2 / 18446744073709551616), .int .u64 (R2 % 18446744073709551616)] 89)).setOther (Ne.symm hz1) 3 (.int .u64 (R3 % 2251799813685248 + R2 / 2251799813685248))).drew
  replace K2 := ((K2.alloc (.cells #[.int .u64 (R2 / 18446744073709551616), .int .u64 (R2 % 18446744073709551616)] 89)).setOther (Ne.symm hz2) 3 (.int .u64 (R3 % 2251799813685248 + R2 / 2251799813685248))).drew
  replace K3 := ((K3.alloc (.cells #[.int .u64 (R2 / 18446744073709551616), .int .u64 (R2 % 18446744073709551616)] 89)).setOther (Ne.symm hz3) 3 (.int .u64 (R3 % 2251799813685248 + R2 / 2251799813685248))).drew
  replace K4 := ((K4.alloc (.cells #[.int .u64 (R2 / 18446744073709551616), .int .u64 (R2 % 18446744073709551616)] 89)).setOther (Ne.symm hz4) 3 (.int .u64 (R3 % 2251799813685248 + R2 / 2251799813685248))).drew
  replace HZ := ((HZ.alloc (.cells #[.int .u64 (R2 / 18446744073709551616), .int .u64 (R2 % 18446744073709551616)] 89)).setCell 3 (.int .u64 (R3 % 2251799813685248 + R2 / 2251799813685248))).drew
  replace GG := gb_drew (gb_set (gb_alloc GG (.cells #[.int .u64 (R2 / 18446744073709551616), .int .u64 (R2 % 18446744073709551616)] 89)) 3 (.int .u64 (R3 % 2251799813685248 + R2 / 2251799813685248)))
  generalize ((W3.alloc (.cells #[.int .u64 (R2 / 18446744073709551616), .int .u64 (R2 % 18446744073709551616)] 89)).setCell ⟨z, 3, none⟩ (.int .u64 (R3 % 2251799813685248 + R2 / 2251799813685248))).drew = W4 at *
  go_wp2_with fail
  have s4 : IntKind.u64.wrap (R4 % 2251799813685248 + R3 / 2251799813685248) = R4 % 2251799813685248 + R3 / 2251799813685248 := wr _ (by omega) (by omega)
  have u1 := K4.cell 1; have v0 := K3.cell 0; have v1 := K3.cell 1
  have u1' := fun o => (K4.alloc o).cell 1; have v0' := fun o => (K3.alloc o).cell 0; have v1' := fun o => (K3.alloc o).cell 1; have f' := fun o => (HZ.alloc o).frozen 4; have k' := fun o => (HZ.alloc o).cell 4
  simp at u1 v0 v1 u1' v0' v1' k'
  go_region_held3 (fun w' => w'.cell? ⟨r4, 1, none⟩ = some (.int .u64 (R4 % 18446744073709551616)) ∧ w'.cell? ⟨r3, 0, none⟩ = some (.int .u64 (R3 / 18446744073709551616)) ∧ w'.cell? ⟨r3, 1, none⟩ = some (.int .u64 (R3 % 18446744073709551616))) (simp [*, go_sem]) (first | (go_at_call 76; refine (over_any R3 qa3 (by omega) _).mono ?_; rintro e w' ⟨rfl, rfl⟩))
  rename_i hh; clear hh
  clear u1 v0 v1 u1' v0' v1' f' k'
  replace K0 := ((K0.alloc (.cells #[.int .u64 (R3 / 18446744073709551616), .int .u64 (R3 % 18446744073709551616)] 89)).setOther (Ne.symm hz0) 4 (.int .u64 (R4 % 2251799813685248 + R3 / 2251799813685248))).drew
  replace K1 := ((K1.alloc (.cells #[.int .u64 (R3 / 18446744073709551616), .int .u64 (R3 % 18446744073709551616)] 89)).setOther (Ne.symm hz1) 4 (.int .u64 (R4 % 2251799813685248 + R3 / 2251799813685248))).drew
  replace K2 := ((K2.alloc (.cells #[.int .u64 (R3 / 18446744073709551616), .int .u64 (R3 % 18446744073709551616)] 89)).setOther (Ne.symm hz2) 4 (.int .u64 (R4 % 2251799813685248 + R3 / 2251799813685248))).drew
  replace K3 := ((K3.alloc (.cells #[.int .u64 (R3 / 18446744073709551616), .int .u64 (R3 % 18446744073709551616)] 89)).setOther (Ne.symm hz3) 4 (.int .u64 (R4 % 2251799813685248 + R3 / 2251799813685248))).drew
  replace K4 := ((K4.alloc (.cells #[.int .u64 (R3 / 18446744073709551616), .int .u64 (R3 % 18446744073709551616)] 89)).setOther (Ne.symm hz4) 4 (.int .u64 (R4 % 2251799813685248 + R3 / 2251799813685248))).drew
  replace HZ := ((HZ.alloc (.cells #[.int .u64 (R3 / 18446744073709551616), .int .u64 (R3 % 18446744073709551616)] 89)).setCell 4 (.int .u64 (R4 % 2251799813685248 + R3 / 2251799813685248))).drew
  replace GG := gb_drew (gb_set (gb_alloc GG (.cells #[.int .u64 (R3 / 18446744073709551616), .int .u64 (R3 % 18446744073709551616)] 89)) 4 (.int .u64 (R4 % 2251799813685248 + R3 / 2251799813685248)))
  generalize ((W4.alloc (.cells #[.int .u64 (R3 / 18446744073709551616), .int .u64 (R3 % 18446744073709551616)] 89)).setCell ⟨z, 4, none⟩ (.int .u64 (R4 % 2251799813685248 + R3 / 2251799813685248))).drew = W5 at *
  go_wp2_with fail
  have HN : NumAt W5 z (R0 % 2251799813685248 + R4 / 2251799813685248 * 19) (R1 % 2251799813685248 + R0 / 2251799813685248) (R2 % 2251799813685248 + R1 / 2251799813685248) (R3 % 2251799813685248 + R2 / 2251799813685248) (R4 % 2251799813685248 + R3 / 2251799813685248) := Blk.to HZ (by simp)
  refine (carry_ex z (R0 % 2251799813685248 + R4 / 2251799813685248 * 19) (R1 % 2251799813685248 + R0 / 2251799813685248) (R2 % 2251799813685248 + R1 / 2251799813685248) (R3 % 2251799813685248 + R2 / 2251799813685248) (R4 % 2251799813685248 + R3 / 2251799813685248) W5 HN ⟨by omega, by omega⟩ ⟨by omega, by omega⟩ ⟨by omega, by omega⟩ ⟨by omega, by omega⟩ ⟨by omega, by omega⟩).mono ?_
  rintro e w' ⟨rfl, y0, y1, y2, y3, y4, hn, hg, hl, hv, _, _⟩
  go_wp2
  go_end0
  refine ⟨rfl, y0, y1, y2, y3, y4, hn, gb_trans GG hg, hl, ?_⟩
  rw [hv, carry_val, Int.sub_mul_emod_self_left, E0.out, E1.out, E2.out, E3.out, E4.out, sq_val, Int.sub_mul_emod_self_left]
end Go.Proofs.Ytialljmkkichiab
