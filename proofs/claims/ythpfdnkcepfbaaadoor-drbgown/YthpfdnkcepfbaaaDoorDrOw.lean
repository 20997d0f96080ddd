/- DrbgOwn: the walk. -/
import Derived.Test.YthpfdnkcepfbaaaDoorDr16
import Derived.Test.YthpfdnkcepfbaaaDoorDr14
import Derived.Test.YthpfdnkcepfbaaaDoorBkY
set_option linter.unusedVariables false
set_option linter.unusedSimpArgs false
set_option linter.unnecessarySimpa false
namespace Go.Proofs.YthpfdnkcepfbaaaDoor
open Go.RowKit

def bNil : Nat → Value := fun _ => .slice none 0 0
theorem zeroBook : (Tryd.prog.info? 98).bind (·.zero) = some (.agg (bkC bNil)) := by kernel_rfl
/-- The book stays where a block of another kind is written. -/
theorem BkY.chgT {w w' : World} {gb bx bo : Nat} {L : List Nat} {K : Nat} (h : BkY w gb bx bo L K) {z : Nat} {C : Array Value} {T : TypeId} (hz : Blk w z C T) (h1 : T ≠ 98) (h2 : T ≠ 22) (h3 : T ≠ 5) (hc : Chg w w' [z]) : BkY w' gb bx bo L K := by
  obtain ⟨B, o, N, c, F, vs, q1, q2, q3, q4, q5, q6⟩ := h
  refine ⟨B, o, N, c, F, vs, q1, q2.chg hc (fun hm => hz.ne q2 h1 (by simpa using hm : gb = z).symm), q3, ownsRow_chg q4 hc (fun k hk hm => ?_), fun j hj => ⟨(q5 j hj).1, (q5 j hj).2.1, (q5 j hj).2.2.1.chg hc (fun hm => ?_), (q5 j hj).2.2.2⟩, q6⟩
  · obtain ⟨C', hC'⟩ := ownsRow_blk q4 hk
    exact hz.ne hC' h2 (by simpa using hm : k = z).symm
  · obtain ⟨C', hC', _⟩ := (q5 j hj).2.2.1
    exact hz.ne hC' h3 (by simpa using hm : o j = z).symm
/-- K and V behind i draws of N bytes. -/
def qs (N : Nat) (K V : Nat → Nat) : Nat → (Nat → Nat) × (Nat → Nat)
  | 0 => (K, V)
  | i + 1 => (dK (qs N K V i).1 (qs N K V i).2 0 (fun _ => 0) N, dV (qs N K V i).1 (qs N K V i).2 0 (fun _ => 0) N)
theorem qs_lt (N : Nat) {K V : Nat → Nat} (hK : L64 K) (hV : L64 V) : ∀ i, L64 (qs N K V i).1 ∧ L64 (qs N K V i).2
  | 0 => ⟨hK, hV⟩
  | i + 1 => ⟨fun j _ => by show dK (qs N K V i).1 (qs N K V i).2 0 (fun _ => 0) N j < 256; exact s2K_lt _ _ _ _ _, fun j _ => by show dV (qs N K V i).1 (qs N K V i).2 0 (fun _ => 0) N j < 256; exact s2V_lt _ _ _ _ _⟩
set_option maxHeartbeats 16000000 in
set_option maxRecDepth 100000 in
theorem own_walk (v0 : Value) (n0 : Nat) (f0 : Nat → Nat) (n : Int) (w : World) (hG : Gl w) (h0 : Sl w v0 n0 f0) :
    Calls Tryd.prog 8 #[v0, .int .i64 n] w fun e w' => e = .returned (.bool true) ∧ Chg w w' [] := by
  have H0 : Hid (Se w v0 n0 f0) := Or.inl h0
  have HG : Hid (Gl w) := hG
  have HGL : Hid (1 < w.heap.size) := hG.lt
  obtain ⟨p0, c0, rfl⟩ := Se.form (Or.inl h0)
  clear h0 hG
  go_enter Tryd.func8, Tryd.ntmps8
  go_wp2_with fail
  refine (aliveD_s w HG.out).mono ?_
  rintro e w1 ⟨rfl, k1⟩
  have HC1 : Hid (Chg w w1 []) := k1
  clear k1
  go_upto_region 4 with fail
  go_cut [39] (fun t wc => ∃ b : Bool, t = .bool b ∧ (b = false → 0 ≤ n ∧ n ≤ 300) ∧ wc = w1)
  case first =>
    by_cases hA : n < 0
    · go_wp2_with fail
      go_meet
      case rel => exact ⟨true, rfl, nofun, rfl⟩
    · by_cases hB : 300 < n
      · go_wp2_with fail
        go_meet
        case rel => exact ⟨true, rfl, nofun, rfl⟩
      · go_wp2_with fail
        go_meet
        case rel => exact ⟨false, rfl, fun _ => ⟨by omega, by omega⟩, rfl⟩
  case rest =>
    obtain ⟨b, rfl, hb, hw⟩ := hcut
    replace hw := hw.symm
    subst hw
    go_upto_if 39 with fail
    go_cut [5] (fun t wc => ∃ N : Nat, N ≤ 300 ∧ t = .int .i64 (N : Int) ∧ wc = w1)
    case first =>
      cases b with
      | false =>
        obtain ⟨N, rfl⟩ : ∃ N : Nat, n = (N : Int) := ⟨n.toNat, by have := hb rfl; omega⟩
        have hN := hb rfl
        go_wp2_with fail
        go_meet
        case rel => exact ⟨N, by omega, rfl, rfl⟩
      | true =>
        go_wp2_with fail
        go_meet
        case rel => exact ⟨300, by omega, rfl, rfl⟩
    case rest =>
      obtain ⟨N, hN, rfl, hw⟩ := hcut
      replace hw := hw.symm
      subst hw
      clear hb
      have HN : Hid (N ≤ 300) := hN
      have hmk : ∀ W : World, (Instr.makeSlice 22 (.int .i64 32) (.int .i64 32)).run Tryd.prog W = .ok (.slice (some ⟨W.heap.size, 0, none⟩) 32 32) (W.alloc (.cells (yC 32 fun _ => 0) 5)) := fun W => make_y' 32 (by omega) W
      have BB0 := Blk.new w1 (yC 32 (fun _ => 0)) 5
      have k2 := (Chg.refl w1 []).alloc (.cells (yC 32 (fun _ => 0)) 5)
      clear hN
      go_upto_region 7 with fail
      generalize w1.alloc (.cells (yC 32 (fun _ => 0)) 5) = w2 at *
      obtain ⟨bb, hbb⟩ : ∃ z, w1.heap.size = z := ⟨_, rfl⟩
      rw [hbb] at BB0 ⊢
      have C2 := HC1.out.trans1 k2
      have HBB : Hid (w.heap.size ≤ bb) := by have := HC1.out.size; show w.heap.size ≤ bb; omega
      obtain ⟨c, hc⟩ : ∃ z, Nat.min n0 32 = z := ⟨_, rfl⟩
      have HCC : Hid (c = Nat.min n0 32 ∧ c ≤ 32 ∧ c ≤ n0) := ⟨hc.symm, by rw [← hc]; exact Nat.min_le_right _ _, by rw [← hc]; exact Nat.min_le_left _ _⟩
      obtain ⟨BF, hBF⟩ : ∃ z, lay (fun _ => 0) 0 c f0 = z := ⟨_, rfl⟩
      have HBF : Hid (lay (fun _ => 0) 0 c f0 = BF) := hBF
      have HBL : Hid (∀ i, i < 32 → BF i < 256) := fun i hi => by
        rw [← hBF]
        unfold lay
        split
        · exact H0.out.bd _ (by have := HCC.out; omega)
        · show (0 : Nat) < 256
          omega
      have S2 := H0.out.chg C2
      have HS2 : Hid (Se w2 (.slice p0 n0 c0) n0 f0) := S2
      clear hbb k2 hc hBF hmk HC1 S2
      go_upto_region 9 with (first
        | (refine copy_z rfl (.tmp 41) (.tmp 42) 22 22 rfl 5 Tryd.underlying22 u8Info bb 0 32 32 p0 n0 c0 rfl rfl #[] 32 (fun _ => 0) #[] 5 BB0.seg 0 c f0 (fun _ => rfl) HCC.out.1 (fun h0 => by obtain ⟨g, o, e, hb⟩ := HS2.out.src (by have := HCC.out; omega); exact ⟨g, o, e, fun j hj => hb.cell j (by have := HCC.out; omega)⟩) (by have := HCC.out; omega) ?_; intro w3 BB3 k3; replace BB3 := BB3.unseg; rw [HBF.out] at BB3; simp only [Act.put, List.setIfInBounds_toArray, List.set_cons_zero, List.set_cons_succ])
        | (refine alloc_w rfl 98 rfl (.agg (bkC bNil)) zeroBook (bkC bNil) rfl ?_; intro gb w4 hgb BK k4))
      have C3 : Chg w w3 [] := C2.new k3 HBB.out
      have C4 := C3.trans1 k4
      have BB4 := BB3.chg k4 (by simp)
      have HGB : Hid (w.heap.size ≤ gb ∧ bb < gb) := ⟨Nat.le_trans C3.size hgb, by have := BB3.lt; omega⟩
      have SB4 := BB4.slT HBL.out (by omega)
      clear C2 k3 C3 k4 BB0 BB3 hgb HS2
      go_wp2_with fail
      refine (New_ok _ _ _ 32 0 0 BF (fun _ => 0) (fun _ => 0) w4 (HG.out.chg C4 (by simp) (by simp)) (Or.inl SB4) (se_nil _ _) (se_nil _ _) (by omega) (by omega)).mono ?_
      rintro e w5 ⟨gx, rfl, hgx, k5, BX⟩
      have C5 := C4.trans1 k5
      have BB5 := BB4.chg k5 (by simp)
      have BK5 := BK.chg k5 (by simp)
      have HGX : Hid (w.heap.size ≤ gx ∧ gb < gx) := ⟨Nat.le_trans C4.size hgx, Nat.lt_of_lt_of_le BK.lt hgx⟩
      have SB5 := BB5.slT HBL.out (by omega)
      clear SB4 k5 C4 BK BB4 hgx
      go_wp2_with fail
      refine (New_ok _ _ _ 32 0 0 BF (fun _ => 0) (fun _ => 0) w5 (HG.out.chg C5 (by simp) (by simp)) (Or.inl SB5) (se_nil _ _) (se_nil _ _) (by omega) (by omega)).mono ?_
      rintro e w6 ⟨gy, rfl, hgy, k6, BY⟩
      have C6 := C5.trans1 k6
      have BB6 := BB5.chg k6 (by simp)
      have BK6 := BK5.chg k6 (by simp)
      have BX6 := BX.chg k6 (by simp)
      have HGY : Hid (w.heap.size ≤ gy ∧ gx < gy) := ⟨Nat.le_trans C5.size hgy, Nat.lt_of_lt_of_le BX.lt hgy⟩
      obtain ⟨K0, hK0⟩ : ∃ z, nK 32 0 0 BF (fun _ => 0) (fun _ => 0) = z := ⟨_, rfl⟩
      obtain ⟨V0, hV0⟩ : ∃ z, nV 32 0 0 BF (fun _ => 0) (fun _ => 0) = z := ⟨_, rfl⟩
      have HKV : Hid (L64 K0 ∧ L64 V0) := ⟨by intro i _; rw [← hK0]; exact s2K_lt _ _ _ _ _, by intro i _; rw [← hV0]; exact s2V_lt _ _ _ _ _⟩
      rw [hK0, hV0] at BX6 BY
      have HP : Hid (2 ≤ gx ∧ 2 ≤ gy) := by have := HGL.out; have := HGX.out; have := HGY.out; exact ⟨by omega, by omega⟩
      clear SB5 k6 C5 BK5 BB5 BX hgy hK0 hV0
      go_wp2_with fail
      go_loopw [12] (fun t wr => ∃ i : Nat, i ≤ 32 ∧ t = .int .i64 (i : Int) ∧ Blk wr bb (yC 32 (mkI 129 BF i)) 5 ∧ Blk wr gx (gC K0 V0 0) 141 ∧ Blk wr gy (gC K0 V0 0) 141 ∧ Blk wr gb (bkC bNil) 98 ∧ Chg w wr []) (fun t _ => (32 - intOf t).toNat)
      case atStart => exact ⟨0, by omega, rfl, by rw [mkI_0]; exact BB6, BX6, BY, BK6, C6⟩
      case round =>
        clear BB6 BX6 BY BK6 C6
        obtain ⟨i, hi, rfl, BB, BX, BY, BK, C⟩ := hrel
        by_cases h8 : i < 32
        · have hI : (i : Int) < 32 := by omega
          have hI0 : (0 : Int) ≤ (i : Int) := by omega
          have e1 : IntKind.i64.wrap ((i : Int) + 1) = (i : Int) + 1 := by rw [IntKind.wrap_i64]; omega
          have cx := (BB.cell i).trans (yC_get 32 _ i h8)
          rw [mkI_at] at cx
          have fx := BB.frozen i
          have ex : bits .xor .u8 ((BF i : Nat) : Int) 129 = ((BF i ^^^ 129 : Nat) : Int) := u8_xor_nat _ 129 (HBL.out i h8) (by omega)
          have A2 := (BB.setCell i (.int .u8 ((BF i ^^^ 129 : Nat) : Int))).to ((yC_set 32 _ i _).trans (congrArg (yC 32) (mkI_up 129 BF i)))
          have X2 := BX.setOther (show gx ≠ bb by have := HGB.out; have := HGX.out; omega) i (.int .u8 ((BF i ^^^ 129 : Nat) : Int))
          have Y2 := BY.setOther (show gy ≠ bb by have := HGB.out; have := HGX.out; have := HGY.out; omega) i (.int .u8 ((BF i ^^^ 129 : Nat) : Int))
          have B2 := BK.setOther (show gb ≠ bb by have := HGB.out; omega) i (.int .u8 ((BF i ^^^ 129 : Nat) : Int))
          have C2 : Chg w (wr.setCell ⟨bb, i, none⟩ (.int .u8 ((BF i ^^^ 129 : Nat) : Int))) [] := C.setNew HBB.out i _
          go_wp2_with fail
          exact ⟨⟨i + 1, by omega, by go_num, A2, X2, Y2, B2, C2⟩, by simp [intOf]; omega⟩
        · have hI : ¬ (i : Int) < 32 := by omega
          obtain ⟨BG, hBG⟩ : ∃ z, mkI 129 BF i = z := ⟨_, rfl⟩
          have HBGL : Hid (∀ j, j < 32 → BG j < 256) := fun j hj => by
            rw [← hBG]
            unfold mkI
            split
            · exact Nat.xor_lt_two_pow (n := 8) (HBL.out j hj) (by omega)
            · exact HBL.out j hj
          rw [hBG] at BB
          obtain ⟨w7, hw7⟩ : ∃ z, z = wr := ⟨wr, rfl⟩
          subst hw7
          have BKY : BkY w7 gb gb w7.heap.size [] 0 := BkY.zero (fun _ _ => rfl) BK (Nat.le_refl _)
          have HW7 : Hid (bb < w7.heap.size ∧ gx < w7.heap.size ∧ gy < w7.heap.size ∧ gb < w7.heap.size ∧ w.heap.size ≤ w7.heap.size) := ⟨BB.lt, BX.lt, BY.lt, BK.lt, C.size⟩
          clear hBG hi h8 BK
          go_wp2_with fail
          go_loopw [13] (fun t wr => ∃ (i : Nat) (L : List Nat) (K : Nat), i ≤ 3 ∧ t = .int .i64 (i : Int) ∧ Blk wr bb (yC 32 BG) 5 ∧ Blk wr gx (gC (qs N K0 V0 i).1 (qs N K0 V0 i).2 i) 141 ∧ Blk wr gy (gC K0 V0 0) 141 ∧ BkY wr gb gb w7.heap.size L K ∧ K ≤ 2 * i ∧ (∀ y, y ∈ L → y < wr.heap.size) ∧ Chg w wr [] ∧ w7.heap.size ≤ wr.heap.size) (fun t _ => (3 - intOf t).toNat)
          case atStart => exact ⟨0, [], 0, by omega, rfl, BB, BX, BY, BKY, by omega, fun y hy => by simp at hy, C, Nat.le_refl _⟩
          case round =>
            clear BB BX BY BKY C
            obtain ⟨i, L, K, hi, rfl, BB, BX, BY, BK, hK, hL, C, hsz⟩ := hrel
            have HQ : Hid (L64 (qs N K0 V0 i).1 ∧ L64 (qs N K0 V0 i).2) := qs_lt N HKV.out.1 HKV.out.2 i
            have HX1 : Hid (gC (dK (qs N K0 V0 i).1 (qs N K0 V0 i).2 0 (fun _ => 0) N) (dV (qs N K0 V0 i).1 (qs N K0 V0 i).2 0 (fun _ => 0) N) (i + 1) = gC (qs N K0 V0 (i + 1)).1 (qs N K0 V0 (i + 1)).2 (i + 1)) := rfl
            obtain ⟨Ki, hKi⟩ : ∃ z, (qs N K0 V0 i).1 = z := ⟨_, rfl⟩
            obtain ⟨Vi, hVi⟩ : ∃ z, (qs N K0 V0 i).2 = z := ⟨_, rfl⟩
            have HQI : Hid ((qs N K0 V0 i).1 = Ki ∧ (qs N K0 V0 i).2 = Vi) := ⟨hKi, hVi⟩
            rw [hKi, hVi] at BX HQ HX1
            clear hKi hVi
            have HKL : Hid (K ≤ 2 * i ∧ i ≤ 3) := ⟨hK, hi⟩
            have HLL : Hid (∀ y, y ∈ L → y < wr.heap.size) := hL
            have HSZ : Hid (w7.heap.size ≤ wr.heap.size) := hsz
            clear hK hL hsz
            by_cases h8 : i < 3
            · have hI : (i : Int) < 3 := by omega
              have e1 : IntKind.i64.wrap ((i : Int) + 1) = (i : Int) + 1 := by rw [IntKind.wrap_i64]; omega
              have HI : Hid (i < 3 ∧ i + 1 ≤ 3) := ⟨h8, by omega⟩
              clear hi h8
              go_wp2_with fail
              refine (Draw_ok gx Ki Vi i N _ 0 (fun _ => 0) wr (HG.out.chg C (by simp) (by simp)) HP.out.1 HQ.out.1 HQ.out.2 BX (seo_nil _ _ _) (by omega) (by have := HN.out; omega) (by have := HI.out; omega)).mono ?_
              rintro e w8 ⟨o1, rfl, ho1, D1, k8, BX8⟩
              rw [HX1.out] at BX8
              have C8 : Chg w w8 [] := C.new k8 HGX.out.1
              have BK8 := BK.chgT BX (by decide) (by decide) (by decide) k8
              have BY8 := BY.chg k8 (by have := HGY.out; simp; omega)
              have BB8 := BB.chg k8 (by have := HGX.out; have := HGB.out; simp; omega)
              have SB8 := BB8.slT HBGL.out (by omega)
              have HO1 : Hid (wr.heap.size ≤ o1 ∧ o1 < w8.heap.size ∧ wr.heap.size ≤ w8.heap.size) := ⟨ho1, D1.lt, k8.size⟩
              clear k8 BX BK BY BB C ho1
              go_wp2_with fail
              refine (Expand_ok _ 32 BG _ 0 (fun _ => 0) N w8 (HG.out.chg C8 (by simp) (by simp)) (Or.inl SB8) (se_nil _ _) (by have := HN.out; omega)).mono ?_
              rintro e w9 ⟨o2, rfl, ho2, D2, k9⟩
              have C9 := C8.trans1 k9
              have BK9 := BK8.chg k9
              have BY9 := BY8.chg k9 (by simp)
              have BB9 := BB8.chg k9 (by simp)
              have BX9 := BX8.chg k9 (by simp)
              have D19 := D1.chg k9 (by simp)
              have HO2 : Hid (w8.heap.size ≤ o2 ∧ o2 < w9.heap.size) := ⟨ho2, D2.lt⟩
              have HL1 : Hid (¬ o1 ∈ L) := fun hx => by have := HLL.out o1 hx; have := HO1.out; omega
              clear SB8 k9 C8 BK8 BY8 BB8 BX8 D1 ho2
              go_wp2_with fail
              refine (BK9.add (by have := HKL.out; omega) (x := o1) (n := N) (d := N) (by have := HN.out; omega) (D19.bl (by have := HN.out; omega)) (by have := HO1.out; have := HSZ.out; omega) HL1.out).mono ?_
              rintro e w10 ⟨rfl, ⟨K1, hK1, BK10⟩, l, k10, hl, hfr⟩
              have C10 : Chg w w10 [] := C9.trans k10 (fun y hy => Or.inr (by have := hl y hy; have := HGB.out; omega))
              have BY10 := BY9.chg k10 (hfr 141 (by decide) (by decide) _ _ BY9)
              have BX10 := BX9.chg k10 (hfr 141 (by decide) (by decide) _ _ BX9)
              have BB10 := BB9.chg k10 (hfr 5 (by decide) (by decide) _ _ BB9)
              have D210 := D2.chg k10 (hfr 5 (by decide) (by decide) _ _ D2)
              have HK1 : Hid (K1 ≤ K + 1) := hK1
              have HL2 : Hid (¬ o2 ∈ o1 :: L) := fun hx => by
                rcases List.mem_cons.1 hx with e | hx
                · have := HO1.out; have := HO2.out; omega
                · have := HLL.out o2 hx; have := HO1.out; have := HO2.out; omega
              have HS10 : Hid (w9.heap.size ≤ w10.heap.size) := k10.size
              clear k10 hl hfr BK9 BY9 BB9 BX9 D19 D2 C9 hK1
              go_wp2_with fail
              refine (BK10.add (by have := HKL.out; have := HK1.out; omega) (x := o2) (n := N) (d := N) (by have := HN.out; omega) (D210.bl (by have := HN.out; omega)) (by have := HO1.out; have := HO2.out; have := HSZ.out; omega) HL2.out).mono ?_
              rintro e w11 ⟨rfl, ⟨K2, hK2, BK11⟩, l, k11, hl, hfr⟩
              have C11 : Chg w w11 [] := C10.trans k11 (fun y hy => Or.inr (by have := hl y hy; have := HGB.out; omega))
              have BY11 := BY10.chg k11 (hfr 141 (by decide) (by decide) _ _ BY10)
              have BX11 := BX10.chg k11 (hfr 141 (by decide) (by decide) _ _ BX10)
              have BB11 := BB10.chg k11 (hfr 5 (by decide) (by decide) _ _ BB10)
              have HE1 : Hid (K2 ≤ 2 * (i + 1)) := by have := HKL.out; have := HK1.out; show K2 ≤ 2 * (i + 1); omega
              have HE2 : Hid (∀ y, y ∈ o2 :: o1 :: L → y < w11.heap.size) := fun y hy => by
                have a := HO1.out; have b := HO2.out; have c := HS10.out; have d := k11.size
                rcases List.mem_cons.1 hy with e | hy
                · omega
                · rcases List.mem_cons.1 hy with e | hy
                  · omega
                  · have := HLL.out y hy; omega
              have HE3 : Hid (w7.heap.size ≤ w11.heap.size) := by have := HSZ.out; have := HO1.out; have := HO2.out; have := HS10.out; have := k11.size; show w7.heap.size ≤ w11.heap.size; omega
              clear k11 hl hfr BK10 BY10 BB10 BX10 D210 C10 hK2
              go_wp2_with fail
              exact ⟨⟨i + 1, o2 :: o1 :: L, K2, HI.out.2, by go_num, BB11, BX11, BY11, BK11, HE1.out, HE2.out, C11, HE3.out⟩, by have := HI.out; simp [intOf]; omega⟩
            · have hI : ¬ (i : Int) < 3 := by omega
              obtain rfl : i = 3 := by omega
              clear hi h8
              go_wp2_with fail
              refine (BK.apart (by have := HKL.out; omega)).mono ?_
              rintro e w8 ⟨rfl, l, k8, hl, hfr⟩
              have C8 : Chg w w8 [] := C.trans k8 (fun y hy => Or.inr (by have := hl y hy; have := HW7.out; omega))
              have BY8 := BY.chg k8 (hfr 141 (by decide) _ _ BY)
              have BX8 := BX.chg k8 (hfr 141 (by decide) _ _ BX)
              clear k8 hl hfr BB BK BY BX C
              go_wp2_with fail
              go_loopw [18] (fun t wr => ∃ (i : Nat), i ≤ 3 ∧ t = .int .i64 (i : Int) ∧ Blk wr gx (gC Ki Vi 3) 141 ∧ Blk wr gy (gC (qs N K0 V0 i).1 (qs N K0 V0 i).2 i) 141 ∧ Chg w wr []) (fun t _ => (3 - intOf t).toNat)
              case atStart => exact ⟨0, by omega, rfl, BX8, BY8, C8⟩
              case round =>
                clear BX8 BY8 C8
                obtain ⟨i, hi, rfl, BX, BY, C⟩ := hrel
                by_cases h8 : i < 3
                · have hI : (i : Int) < 3 := by omega
                  have e1 : IntKind.i64.wrap ((i : Int) + 1) = (i : Int) + 1 := by rw [IntKind.wrap_i64]; omega
                  have HI : Hid (i < 3 ∧ i + 1 ≤ 3) := ⟨h8, by omega⟩
                  have HQ2 : Hid (L64 (qs N K0 V0 i).1 ∧ L64 (qs N K0 V0 i).2) := qs_lt N HKV.out.1 HKV.out.2 i
                  have HX2 : Hid (gC (dK (qs N K0 V0 i).1 (qs N K0 V0 i).2 0 (fun _ => 0) N) (dV (qs N K0 V0 i).1 (qs N K0 V0 i).2 0 (fun _ => 0) N) (i + 1) = gC (qs N K0 V0 (i + 1)).1 (qs N K0 V0 (i + 1)).2 (i + 1)) := rfl
                  obtain ⟨Kj, hKj⟩ : ∃ z, (qs N K0 V0 i).1 = z := ⟨_, rfl⟩
                  obtain ⟨Vj, hVj⟩ : ∃ z, (qs N K0 V0 i).2 = z := ⟨_, rfl⟩
                  rw [hKj, hVj] at BY HQ2 HX2
                  clear hi h8 hKj hVj
                  go_wp2_with fail
                  refine (Draw_ok gy Kj Vj i N _ 0 (fun _ => 0) wr (HG.out.chg C (by simp) (by simp)) HP.out.2 HQ2.out.1 HQ2.out.2 BY (seo_nil _ _ _) (by omega) (by have := HN.out; omega) (by have := HI.out; omega)).mono ?_
                  rintro e w9 ⟨o1, rfl, _, _, k9, BY9⟩
                  rw [HX2.out] at BY9
                  have C9 : Chg w w9 [] := C.new k9 HGY.out.1
                  have BX9 := BX.chg k9 (by have := HGY.out; simp; omega)
                  clear k9 BX BY C
                  go_wp2_with fail
                  exact ⟨⟨i + 1, HI.out.2, by go_num, BX9, BY9, C9⟩, by have := HI.out; simp [intOf]; omega⟩
                · have hI : ¬ (i : Int) < 3 := by omega
                  obtain rfl : i = 3 := by omega
                  rw [HQI.out.1, HQI.out.2] at BY
                  clear hi h8
                  go_wp2_with fail
                  refine (Draw_ok gx Ki Vi 3 40 _ 0 (fun _ => 0) wr (HG.out.chg C (by simp) (by simp)) HP.out.1 HQ.out.1 HQ.out.2 BX (seo_nil _ _ _) (by omega) (by omega) (by omega)).mono ?_
                  rintro e w9 ⟨o1, rfl, ho1, D1, k9, _⟩
                  have C9 : Chg w w9 [] := C.new k9 HGX.out.1
                  have BY9 := BY.chg k9 (by have := HGY.out; simp; omega)
                  have HO : Hid (¬ o1 ∈ [gy]) := by show ¬ o1 ∈ [gy]; have := BY.lt; simp; omega
                  clear k9 BX BY C ho1
                  go_wp2_with fail
                  refine (Draw_ok gy Ki Vi 3 40 _ 0 (fun _ => 0) w9 (HG.out.chg C9 (by simp) (by simp)) HP.out.2 HQ.out.1 HQ.out.2 BY9 (seo_nil _ _ _) (by omega) (by omega) (by omega)).mono ?_
                  rintro e w10 ⟨o2, rfl, _, D2, k10, _⟩
                  have C10 : Chg w w10 [] := C9.new k10 HGY.out.1
                  have S1 := (D1.chg k10 HO.out).slT (fun j _ => dO_lt _ _ _ _ _) (by omega)
                  have S2 := D2.slT (fun j _ => dO_lt _ _ _ _ _) (by omega)
                  clear D1 D2 BY9 C9 k10
                  go_wp2_with fail
                  refine (Draw_nil 3 _ w10).mono ?_
                  rintro e w11 ⟨rfl, rfl⟩
                  go_wp2_with fail
                  refine (Random_nil w11).mono ?_
                  rintro e w12 ⟨rfl, k12⟩
                  obtain ⟨Z, hZ⟩ : ∃ z, (fun _ : Nat => (0 : Nat)) = z := ⟨_, rfl⟩
                  have HZ : Hid (yC 32 (fun _ => 0) = yC 32 Z) := by show yC 32 _ = _; rw [hZ]
                  rw [HZ.out]
                  clear hZ
                  go_wp2_with (first
                    | (refine store_w BR rfl 69 _ _ (yC 32 Z) rfl rfl rfl (by rw [yC_size]; exact randInfo) (by rw [yC_size, yC_size]) (yC_one 32 _) ?_; intro w14 BR7 k14)
                    | (with_reducible refine alloc_w rfl 69 rfl (.agg (yC 32 (fun _ => 0))) zeroRand (yC 32 (fun _ => 0)) rfl ?_; intro rb w13 hrb BR k13))
                  have c14 : Chg w12 w14 [] := k13.new k14 hrb
                  have K14 := k12.trans1 c14
                  clear BR BR7 k12 k13 k14 c14 hrb
                  refine (TRandom_nil w14).mono ?_
                  rintro e w15 ⟨rfl, k15⟩
                  rw [HZ.out]
                  go_wp2_with (first
                    | (refine store_w BR rfl 69 _ _ (yC 32 Z) rfl rfl rfl (by rw [yC_size]; exact randInfo) (by rw [yC_size, yC_size]) (yC_one 32 _) ?_; intro w17 BR7 k17)
                    | (with_reducible refine alloc_w rfl 69 rfl (.agg (yC 32 (fun _ => 0))) zeroRand (yC 32 (fun _ => 0)) rfl ?_; intro rb2 w16 hrb BR k16))
                  have c17 : Chg w15 w17 [] := k16.new k17 hrb
                  have K17 := K14.trans1 (k15.trans1 c17)
                  clear BR BR7 k15 k16 k17 c17 hrb K14
                  refine (SameBytes_sl _ _ 40 _ w17 (S1.chg K17 (Off.nil _)) (S2.chg K17 (Off.nil _))).mono ?_
                  rintro e w18 ⟨rfl, k18⟩
                  have K18 := C10.trans1 (K17.trans1 k18)
                  clear K17 k18 S1 S2 C10
                  go_wp2_with fail
                  refine (num_s 2 w18).mono ?_
                  rintro e w19 ⟨rfl, rfl⟩
                  go_wp2_with fail
                  refine (num_s 2 w19).mono ?_
                  rintro e w20 ⟨rfl, rfl⟩
                  go_wp2_with fail
                  refine (num_s 2 w20).mono ?_
                  rintro e w21 ⟨rfl, rfl⟩
                  go_wp2_with fail
                  refine (Reseed_nil _ _ w21).mono ?_
                  rintro e w22 ⟨rfl, rfl⟩
                  go_wp2_with fail
                  refine (num_s 2 w22).mono ?_
                  rintro e w23 ⟨rfl, rfl⟩
                  go_wp2_with fail
                  refine (Left_nil w23).mono ?_
                  rintro e w24 ⟨rfl, rfl⟩
                  go_wp2_with fail
                  refine (TLeft_nil w24).mono ?_
                  rintro e w25 ⟨rfl, rfl⟩
                  go_wp2_with fail
                  go_ret
                  exact ⟨rfl, K18⟩
end Go.Proofs.YthpfdnkcepfbaaaDoor
