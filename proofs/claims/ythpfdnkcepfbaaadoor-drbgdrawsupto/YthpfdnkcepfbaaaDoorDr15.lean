/- drbg.Expand of any number; DrbgBegins: the walk. -/
import Derived.Test.YthpfdnkcepfbaaaDoorDr14
set_option linter.unusedVariables false
set_option linter.unusedSimpArgs false
set_option linter.unnecessarySimpa false
namespace Go.Proofs.YthpfdnkcepfbaaaDoor
open Go.RowKit

/-- The error of Expand; how many bytes it answers. -/
def xe (n : Int) : Int := if n < 0 then 1 else if 16320 < n then 113 else 0
def xl (n : Int) : Nat := if xe n = 0 then n.toNat else 0
theorem xe_0 {n : Int} (h : xe n = 0) : n = ((n.toNat : Nat) : Int) ∧ n.toNat ≤ 16320 ∧ xl n = n.toNat := by
  have hx : xl n = n.toNat := by unfold xl; rw [if_pos h]
  unfold xe at h
  split at h
  · omega
  · split at h
    · omega
    · exact ⟨by omega, by omega, hx⟩
theorem xe_no {n : Int} (h : ¬ xe n = 0) : (n < 0 ∧ xe n = 1) ∨ (16320 < n ∧ xe n = 113) := by
  unfold xe at h ⊢
  by_cases h1 : n < 0
  · exact Or.inl ⟨h1, by rw [if_pos h1]⟩
  · rw [if_neg h1] at h ⊢
    by_cases h2 : 16320 < n
    · exact Or.inr ⟨h2, by rw [if_pos h2]⟩
    · rw [if_neg h2] at h; exact absurd rfl h
theorem eq_dgs (f g : Nat → Nat) (w : World) : (Op.equalIn 10000 47 (.agg (yC 64 f)) (.agg (yC 64 g))).run Tryd.prog w = .ok (eqy f g) w := by
  obtain ⟨i, hi⟩ := u8InfoE
  rw [show (10000 : Nat) = 9998 + 1 + 1 from rfl, run_equalIn_array w 9999 _ _ Tryd.underlying47 hi, u8CellsE]
  exact eqItems_ints w 9998 Tryd.underlying5 _ _ (fun i => ((f i : Nat) : Int)) (fun i => ((g i : Nat) : Int)) (List.range 64) (fun j hj => ⟨yC_get 64 f j (by simpa using hj), yC_get 64 g j (by simpa using hj)⟩)
theorem Expand_a (kv : Value) (n : Nat) (kf : Nat → Nat) (iv : Value) (m : Nat) (f : Nat → Nat) (N : Int) (w : World) (hG : Gl w) (hk : Se w kv n kf) (hi : Se w iv m f) :
    Calls Tryd.prog 10 #[kv, iv, .int .i64 N] w fun e w' => ∃ p c, e = .returned (.tuple #[.slice p (xl N) c, .int .i64 (xe N)]) ∧ Sl w' (.slice p (xl N) c) (xl N) (xO n kf m f) ∧ VN (.slice p (xl N) c) w.heap.size ∧ (xe N = 0 → ∃ ob, p = some ⟨ob, 0, none⟩ ∧ c = xl N ∧ Blk w' ob (yC (xl N) (xO n kf m f)) 5) ∧ Chg w w' [] := by
  by_cases h : xe N = 0
  · obtain ⟨h1, h2, h3⟩ := xe_0 h
    have q := Expand_ok kv n kf iv m f N.toNat w hG hk hi h2
    rw [← h1] at q
    refine q.mono ?_
    rintro e w' ⟨ob, rfl, hob, B, c⟩
    rw [h3, h]
    exact ⟨_, _, rfl, B.slT (fun j _ => xT_lt _ _ _ _ _ _) (by omega), fun g o a b e => by simp only [Value.slice.injEq, Option.some.injEq, Addr.mk.injEq] at e; omega, fun _ => ⟨ob, rfl, rfl, B⟩, c⟩
  · have hx : xl N = 0 := by unfold xl; rw [if_neg h]
    obtain ⟨pi, ci, hiv⟩ := hi.form
    refine (Expand_no kv iv N (xe N) (xe_no h) w ⟨_, _, _, hiv⟩).mono ?_
    rintro e w' ⟨rfl, c⟩
    rw [hx]
    exact ⟨_, _, rfl, Or.inl ⟨rfl, rfl⟩, fun g o a b e => by simp at e, fun h0 => absurd h0 h, c⟩
theorem kb_zeros {n L : Nat} (f : Nat → Nat) (h1 : n ≤ L) (h2 : L ≤ 128) : kb L (cat f n (fun _ => 0)) = kb n f := by
  funext j
  unfold kb cat
  have a : ¬ 128 < L := by omega
  have b : ¬ 128 < n := by omega
  simp only [a, b, if_false]
  by_cases h : j < n
  · have hL : j < L := by omega
    simp only [h, hL, if_true]
  · simp only [h, if_false]
    split <;> rfl
theorem mac_zeros {n L : Nat} (f : Nat → Nat) (h1 : n ≤ L) (h2 : L ≤ 128) (N : Nat) (F : Nat → Nat) : mac L (cat f n (fun _ => 0)) N F = mac n f N F := by unfold mac; rw [kb_zeros f h1 h2]
theorem own_len {w : World} {base : Nat} {v : Value} {n : Nat} {f : Nat → Nat} (O : Own w base v n f) : ∃ p c, v = .slice p n c := by
  obtain ⟨⟨_, h1⟩, _⟩ := O
  rcases h1 with ⟨rfl, rfl⟩ | ⟨g, cap, cur, rfl, _⟩
  · exact ⟨none, 0, rfl⟩
  · exact ⟨_, _, rfl⟩
theorem own_begin (w : World) (b : Nat) (pn : Nat → Nat) (pf : Nat → Nat → Nat) : Own w b (.slice none 0 0) (cN pn 0) (cF pn pf 0) := Own.nil _ _ _
theorem cat_one (f : Nat → Nat) (n L : Nat) (h : n ≤ L) : ∀ i, i < L + 1 → cat (cat f n (fun _ => 0)) L (fun _ => 0) i = cat f n (fun _ => 0) i := fun i _ => by
  unfold cat
  split
  · rfl
  · rw [if_neg (by omega)]
theorem Ps.form {w : World} {v : Value} {k : Nat} {pv : Nat → Value} {pn : Nat → Nat} {pf : Nat → Nat → Nat} (h : Ps w v k pv pn pf) : ∃ p c, v = .slice p k c ∧ k ≤ 9223372036854775807 := by
  rcases h.2 with ⟨rfl, rfl⟩ | ⟨g, o, cap, rfl, h1, h2, _⟩
  · exact ⟨none, 0, rfl, by omega⟩
  · exact ⟨_, _, rfl, by omega⟩
/-- A list built under a guard that lets it. -/
theorem bsl_g {w : World} {ops : Array Oper} {rest : List Oper} {op : Oper} {a : Act} {Q : Exit → Act → World → Prop} (hw : Region.wanted op (yielded ops a.tmps) = true) (t e : TypeId) (n : Nat) (parts : Array (Nat × Operand)) (ho : op.op = .buildSlice t n parts) (vs : List (Nat × Value)) (hv : (parts.map fun (i, x) => (i, a.eval x)).toList = vs) (cells : Array Value) (ie : TypeInfo) (z : Value)
    (hu : Tryd.prog.underlying t = some (.slice e)) (hie : Tryd.prog.info? e = some ie) (hz : ie.zero = some z) (s : Nat) (hs : ie.size = s) (h0 : ¬ n * s = 0) (h1 : ¬ n * s > 2 ^ 24)
    (hf : Instr.fill (fun i => some (i * s, s)) ((Array.range (n * s)).map (z.cells[· % z.cells.size]!)) vs = some cells)
    (h : ∀ g w', w.heap.size ≤ g → Blk w' g cells e → Chg w w' [] → wpList Tryd.prog ops Q rest (a.put op.dst (.slice (some ⟨g, 0, none⟩) n n)) w') : wpList Tryd.prog ops Q (op :: rest) a w :=
  wpList_step fun K hK => by
    rw [if_pos hw]
    exact wp_bsl_o t e n parts ho vs hv cells ie z hu hie hz s hs h0 h1 hf fun g w' q1 q2 q3 => hK _ _ (h g w' q1 q2 q3)
/-- The part i, where it lies. -/
theorem Ps.at {w : World} {p : Option Addr} {c k : Nat} {pv : Nat → Value} {pn : Nat → Nat} {pf : Nat → Nat → Nat} (h : Ps w (.slice p k c) k pv pn pf) {i : Nat} (hi : i < k) : ∃ g o, p = some ⟨g, o, none⟩ ∧ w.cell? ⟨g, o + i, none⟩ = some (pv i) := by
  rcases h.2 with ⟨rfl, _⟩ | ⟨g, o, cap, he, _, _, _, hc⟩
  · omega
  · simp only [Value.slice.injEq] at he
    exact ⟨g, o, he.1, hc i hi⟩
set_option maxHeartbeats 16000000 in
set_option maxRecDepth 100000 in
theorem begins_walk (v0 v1 v4 : Value) (n0 : Nat) (f0 : Nat → Nat) (n1 : Nat) (f1 : Nat → Nat) (n m zs : Int) (k : Nat) (pv : Nat → Value) (pn : Nat → Nat) (pf : Nat → Nat → Nat) (w : World) (hG : Gl w) (h0 : Sl w v0 n0 f0) (h1 : Sl w v1 n1 f1) (hp : Ps w v4 k pv pn pf) (hb : cN pn k ≤ 1048576) (hn0 : n0 ≤ 1048576) :
    Calls Tryd.prog 7 #[v0, v1, .int .i64 n, .int .i64 m, v4, .int .i64 zs] w fun e w' => e = .returned (.bool true) ∧ Chg w w' [] := by
  have H0 : Hid (Sl w v0 n0 f0 ∧ n0 ≤ 1048576) := ⟨h0, hn0⟩
  have H1 : Hid (Se w v1 n1 f1) := Or.inl h1
  have HP : Hid (Ps w v4 k pv pn pf ∧ cN pn k ≤ 1048576) := ⟨hp, hb⟩
  have HG : Hid (Gl w) := hG
  obtain ⟨p0, c0, hv0⟩ := Se.form (Or.inl h0)
  obtain ⟨p1, c1, hv1⟩ := Se.form (Or.inl h1)
  obtain ⟨p4, c4, hv4, hk9⟩ := hp.form
  subst hv0 hv1 hv4
  have hge : Tryd.prog.eqGuardType Tryd.prog.depth 47 = false := by kernel_rfl
  clear h0 h1 hp hb hn0 hG
  go_enter Tryd.func7, Tryd.ntmps7
  go_wp2_with fail
  refine (aliveD_s w HG.out).mono ?_
  rintro e w1 ⟨rfl, k1⟩
  go_wp2_with fail
  refine (Expand_a _ n0 f0 _ n1 f1 n w1 (HG.out.chg k1 (by simp) (by simp)) (Or.inl (H0.out.1.chg k1 (Off.nil _))) (H1.out.chg k1)).mono ?_
  rintro e w2 ⟨pa, ca, rfl, SA, _, hA, k2⟩
  have C2 := k1.trans1 k2
  clear k1
  go_wp2_with fail
  refine (Expand_a _ n0 f0 _ n1 f1 m w2 (HG.out.chg C2 (by simp) (by simp)) (Or.inl (H0.out.1.chg C2 (Off.nil _))) (H1.out.chg C2)).mono ?_
  rintro e w3 ⟨pb, cb, rfl, SB, _, hB, k3⟩
  have C3 := C2.trans1 k3
  have HC : Hid (Chg w w3 []) := C3
  have HA : Hid (xe n = 0 → ∃ ob N, pa = some ⟨ob, 0, none⟩ ∧ ca = N ∧ xl n = N ∧ n = ((N : Nat) : Int) ∧ N ≤ 16320 ∧ Blk w3 ob (yC N (xO n0 f0 n1 f1)) 5) := fun h => by
    obtain ⟨ob, q1, q2, q3⟩ := hA h
    obtain ⟨a1, a2, a3⟩ := xe_0 h
    refine ⟨ob, n.toNat, q1, q2.trans a3, a3, a1, a2, ?_⟩
    rw [← a3]
    exact q3.chg k3 (by simp)
  have HB : Hid (xe m = 0 → ∃ ob N, pb = some ⟨ob, 0, none⟩ ∧ cb = N ∧ xl m = N ∧ m = ((N : Nat) : Int) ∧ N ≤ 16320 ∧ Blk w3 ob (yC N (xO n0 f0 n1 f1)) 5) := fun h => by
    obtain ⟨ob, q1, q2, q3⟩ := hB h
    obtain ⟨a1, a2, a3⟩ := xe_0 h
    refine ⟨ob, m.toNat, q1, q2.trans a3, a3, a1, a2, ?_⟩
    rw [← a3]
    exact q3
  obtain ⟨E1, hE1⟩ : ∃ z, xe n = z := ⟨_, rfl⟩
  obtain ⟨E2, hE2⟩ : ∃ z, xe m = z := ⟨_, rfl⟩
  obtain ⟨L1, hL1⟩ : ∃ z, xl n = z := ⟨_, rfl⟩
  obtain ⟨L2, hL2⟩ : ∃ z, xl m = z := ⟨_, rfl⟩
  rw [hE1, hL1] at HA
  rw [hE2, hL2] at HB
  rw [hE1, hL1, hE2, hL2]
  clear C2 k2 k3 C3 SA SB hA hB hE1 hE2 hL1 hL2
  go_upto_region 5 with fail
  go_cut [69] (fun t wc => t = .bool false ∧ Chg w3 wc [])
  case first =>
    by_cases hn : E1 = 0
    · obtain ⟨ao, N, rfl, rfl, rfl, rfl, a2, BA⟩ := HA.out hn
      subst hn
      clear HA
      go_wp2_with fail
      refine (num_s 0 w3).mono ?_
      rintro e w4 ⟨rfl, rfl⟩
      by_cases hm : E2 = 0
      · obtain ⟨bo, M, rfl, rfl, rfl, rfl, b2, BB⟩ := HB.out hm
        subst hm
        clear HB
        go_wp2_with fail
        refine (num_s 0 w4).mono ?_
        rintro e w5 ⟨rfl, rfl⟩
        by_cases hle : L1 ≤ L2
        · have hI : (L1 : Int) ≤ (L2 : Int) := by omega
          have hI0 : (0 : Int) ≤ (L1 : Int) := by omega
          have HLE : Hid (L1 ≤ L2 ∧ L2 ≤ 16320) := ⟨hle, b2⟩
          have SA : Sl w5 (.slice (some ⟨ao, 0, none⟩) L1 L1) L1 (xO n0 f0 n1 f1) := BA.slT (fun j _ => xT_lt _ _ _ _ _ _) (by omega)
          have SB : Sl w5 (.slice (some ⟨bo, 0, none⟩) L1 L2) L1 (xO n0 f0 n1 f1) := Or.inr ⟨bo, 0, L2, rfl, hle, by omega, BB.lt, fun j _ => xT_lt _ _ _ _ _ _, fun i hi => by rw [Nat.zero_add, BB.cell, yC_get _ _ _ (by omega)]⟩
          clear hle a2 b2
          go_wp2_with fail
          refine (SameBytes_sl _ _ L1 (xO n0 f0 n1 f1) w5 SA SB).mono ?_
          rintro e w6 ⟨rfl, k6⟩
          go_wp2_with fail
          go_meet
          case rel => exact ⟨rfl, k6⟩
        · have hI : ¬ (L1 : Int) ≤ (L2 : Int) := by omega
          go_wp2_with fail
          go_meet
          case rel => exact ⟨rfl, Chg.refl _ _⟩
      · have hm2 : (E2 == 0) = false := by simpa using hm
        clear HB
        go_wp2_with fail
        refine (num_s E2 w4).mono ?_
        rintro e w5 ⟨rfl, rfl⟩
        go_wp2_with fail
        go_meet
        case rel => exact ⟨rfl, Chg.refl _ _⟩
    · have hn2 : (E1 == 0) = false := by simpa using hn
      clear HA HB
      go_wp2_with fail
      refine (num_s E1 w3).mono ?_
      rintro e w4 ⟨rfl, rfl⟩
      go_wp2_with fail
      go_meet
      case rel => exact ⟨rfl, Chg.refl _ _⟩
  case rest =>
    obtain ⟨rfl, kc⟩ := hcut
    have C4 := HC.out.trans1 kc
    obtain ⟨w4, rfl⟩ : ∃ z, z = wc := ⟨wc, rfl⟩
    clear kc HC HA HB
    have O0 := own_begin w4 w.heap.size pn pf
    go_wp2_with fail
    go_loopw [18, 17] (fun t ta wr => ∃ (i : Nat), i ≤ k ∧ t = .int .i64 (i : Int) ∧ Own wr w.heap.size ta (cN pn i) (cF pn pf i) ∧ Chg w wr []) (fun t _ _ => ((k : Int) - intOf t).toNat)
    case atStart => exact ⟨0, by omega, rfl, O0, C4⟩
    case round =>
      clear O0 C4
      obtain ⟨i, hi, rfl, OA, C⟩ := hrel
      by_cases h8 : i < k
      · have hI : (i : Int) < (k : Int) := by omega
        have hI0 : (0 : Int) ≤ (i : Int) := by omega
        have e1 : IntKind.i64.wrap ((i : Int) + 1) = (i : Int) + 1 := by rw [IntKind.wrap_i64]; omega
        have HI : Hid (i + 1 ≤ k ∧ i < k) := by exact ⟨by omega, h8⟩
        have HPW := HP.out.1.chg C
        obtain ⟨g4, o4, rfl, cx⟩ := HPW.at h8
        have HSE : Hid (Se wr (pv i) (pn i) (pf i)) := HPW.1 i h8
        have HSM : Hid (cN pn i + pn i ≤ 211106232532992) := by
          have q : cN pn (i + 1) ≤ cN pn k := cN_mono pn (by omega)
          have := HP.out.2
          show cN pn i + pn i ≤ 211106232532992
          have q2 : cN pn (i + 1) = cN pn i + pn i := rfl
          omega
        clear h8 hi HPW
        go_wp2_with (refine append_e rfl (.tmp 76) (.tmp 80) rfl w.heap.size _ (pv i) (cN pn i) (pn i) (cF pn pf i) (pf i) rfl rfl OA HSE.out HSM.out C.size ?_; intro a1 w5 O1 q1; have C1 : Chg w w5 [] := C.trans q1 (fun y hy => Or.inr (OA.ob_ge y hy).1))
        exact ⟨⟨i + 1, HI.out.1, by go_num, O1, C1⟩, by have := HI.out; simp [intOf]; omega⟩
      · obtain rfl : i = k := by omega
        have hI : ¬ (i : Int) < (i : Int) := by omega
        obtain ⟨px, cx, rfl⟩ := own_len OA
        have HOA : Hid (Own wr w.heap.size (.slice px (cN pn i) cx) (cN pn i) (cF pn pf i)) := OA
        obtain ⟨T, hT⟩ : ∃ T, cN pn i = T := ⟨_, rfl⟩
        obtain ⟨F, hF⟩ : ∃ F, cF pn pf i = F := ⟨_, rfl⟩
        have HTF : Hid (cN pn i = T ∧ cF pn pf i = F ∧ T ≤ 1048576) := ⟨hT, hF, by rw [← hT]; exact HP.out.2⟩
        rw [hT, hF] at HOA
        rw [hT]
        clear OA hT hF hi h8
        go_wp2_with fail
        refine (CopyBytes_s _ n0 f0 wr (by have := H0.out.2; omega) (H0.out.1.chg C (Off.nil _))).mono ?_
        rintro e w5 ⟨lv, rfl, OL, k5⟩
        have C5 := C.trans1 k5
        have HS5 : Hid (wr.heap.size ≤ w5.heap.size) := k5.size
        have HCW : Hid (Chg w wr []) := C
        have SA5 := HOA.out.sl.chg k5 (Off.nil _)
        have HOF : Hid (∀ b, b ∈ ob (.slice px T cx) → b < wr.heap.size) := fun b hb => (HOA.out.ob_ge b hb).2
        clear HOA k5
        obtain ⟨wo, hwo⟩ : ∃ z, z = wr := ⟨wr, rfl⟩
        subst hwo
        have OL0 : Own w5 wo.heap.size lv (n0 + 0) (cat f0 n0 (fun _ => 0)) := OL.cong fun i hi => by unfold cat; rw [if_pos hi]
        go_wp2_with fail
        go_loopw [20, 19] (fun t ta wr => ∃ (j : Nat), (j = 0 ∨ n0 + j ≤ 128) ∧ t = .int .i64 (j : Int) ∧ Own wr wo.heap.size ta (n0 + j) (cat f0 n0 (fun _ => 0)) ∧ Sl wr (.slice px T cx) T F ∧ Chg w wr [] ∧ wo.heap.size ≤ wr.heap.size) (fun t _ _ => (zs - intOf t).toNat)
        case atStart => exact ⟨0, Or.inl rfl, rfl, OL0, SA5, C5, HS5.out⟩
        case round =>
          clear OL0 SA5 C5 OL
          obtain ⟨j, hj, rfl, OQ, SQ, CQ, hq⟩ := hrel
          have HJ : Hid (j = 0 ∨ n0 + j ≤ 128) := hj
          have HQ : Hid (wo.heap.size ≤ wr.heap.size) := hq
          obtain ⟨pl, cl, rfl⟩ := own_len OQ
          obtain ⟨LL, hLL⟩ : ∃ z, n0 + j = z := ⟨_, rfl⟩
          have HLL : Hid (n0 + j = LL ∧ n0 ≤ 1048576) := ⟨hLL, H0.out.2⟩
          rw [hLL] at OQ ⊢
          by_cases hz : (j : Int) < zs ∧ LL < 128
          · have hI : (j : Int) < zs := hz.1
            have hI2 : (LL : Int) < 128 := by omega
            have HZ : Hid ((j : Int) < zs ∧ LL < 128) := hz
            have e1 : IntKind.i64.wrap ((j : Int) + 1) = (j : Int) + 1 := by rw [IntKind.wrap_i64]; omega
            have HOQ : Hid (Own wr wo.heap.size (.slice pl LL cl) LL (cat f0 n0 (fun _ => 0))) := OQ
            have HSQ : Hid (Sl wr (.slice px T cx) T F) := SQ
            have HCQ : Hid (Chg w wr []) := CQ
            obtain ⟨iu, hiu, hiuz, hius, _⟩ := u8Row
            clear hz hj hq OQ SQ CQ hLL
            go_wp2_with (first
              | (refine append_y rfl (.tmp 94) (.tmp 95) rfl wo.heap.size _ (.slice (some ⟨zb, 0, none⟩) 1 1) LL 1 (cat f0 n0 (fun _ => 0)) (fun _ => 0) rfl rfl (HOQ.out.chg k6 (by simp)) (BZ.bs (N := 1) (t := fun _ => 0) (fun _ _ => by omega) |>.sl 1 (by omega) (by omega)) (by have := HZ.out; omega) (by have := k6.size; have := HQ.out; omega) ?_; intro a1 w7 O7 q7)
              | (with_reducible refine bsl_w ?_ 22 5 1 #[(0, .const (.int .u8 0))] ?_ [(0, .int .u8 0)] ?_ #[.int .u8 0] iu (.int .u8 0) Tryd.underlying22 hiu hiuz 1 hius ?_ ?_ (fillB1 _) ?_
                 · rfl
                 · rfl
                 · simp [Act.eval]
                 · omega
                 · omega
                 intro zb w6 hzb BZ k6))
            have O8 : Own w7 wo.heap.size a1 (n0 + (j + 1)) (cat f0 n0 (fun _ => 0)) := by
              have q := O7.cong (cat_one f0 n0 LL (by have := HLL.out; omega))
              rwa [show LL + 1 = n0 + (j + 1) by have := HLL.out; omega] at q
            have C6 := HCQ.out.trans1 k6
            have hob : ∀ y, y ∈ ob (.slice pl LL cl) → wo.heap.size ≤ y := fun y hy => (HOQ.out.ob_ge y hy).1
            have C7 : Chg w w7 [] := C6.trans q7 (fun y hy => Or.inr (Nat.le_trans HCW.out.size (hob y hy)))
            have S7 : Sl w7 (.slice px T cx) T F := (HSQ.out.chg k6 (Off.nil _)).chg q7 (fun g o a b e hx => by have := hob g hx; have := HOF.out g (by rw [e]; simp [ob, Value.ownBlock]); omega)
            exact ⟨⟨j + 1, Or.inr (by have := HZ.out; have := HLL.out; omega), by go_num, O8, S7, C7, by have := q7.size; have := k6.size; have := HQ.out; omega⟩, by have := HZ.out; simp [intOf]; omega⟩
          · have hz' : ¬ (j : Int) < zs ∨ ((j : Int) < zs ∧ ¬ (LL : Int) < 128) := by omega
            obtain ⟨ib, hib, hibz, hibs, _⟩ := bytesRow
            obtain ⟨DG, hDG⟩ : ∃ z, mac n0 f0 T F = z := ⟨_, rfl⟩
            have HDG : Hid (mac n0 f0 T F = DG) := hDG
            have HSQ : Hid (Sl wr (.slice px T cx) T F) := SQ
            have HSL : Hid (Sl wr (.slice pl LL cl) LL (cat f0 n0 (fun _ => 0))) := OQ.sl
            have HCQ : Hid (Chg w wr []) := CQ
            have hEQ : ∀ w : World, (Op.equalIn 10000 47 (.agg (yC 64 DG)) (.agg (yC 64 DG))).run Tryd.prog w = .ok true w := fun w => (eq_dgs DG DG w).trans (by rw [eqy_self])
            have HLB : Hid (T ≤ 1048576 ∧ LL ≤ 9223372036854775807) := ⟨HTF.out.2.2, by have := (Se.le (Or.inl OQ.sl) : LL < 9223372036854775808); omega⟩
            clear hz hj hq OQ SQ CQ hLL hDG
            rcases hz' with hI | ⟨hI, hI2⟩
            all_goals
              go_wp2_with fail
              refine (MAC_s _ n0 f0 _ i pv pn pf wr (HG.out.chg HCQ.out (by simp) (by simp)) (Or.inl (H0.out.1.chg HCQ.out (Off.nil _))) (by have := H0.out.2; omega) (HP.out.1.chg HCQ.out) (by have := HP.out.2; omega)).mono ?_
              rintro e w8 ⟨rfl, k8⟩
              rw [HTF.out.1, HTF.out.2.1, HDG.out]
              go_wp2_with (first
              | (refine bsl_w rfl 23 22 1 #[(0, .tmp 101)] rfl [(0, .slice px T cx)] (by simp [Act.eval]) #[.slice px T cx] ib (.slice none 0 0) Tryd.underlying23 hib hibz 1 hibs (by omega) (by omega) (fillS1 _ _ _) ?_; intro B9b w9 _ B9 k9))
              have c9 := k8.trans1 k9
              refine (MAC_s _ n0 f0 _ 1 _ _ _ w9 ((HG.out.chg HCQ.out (by simp) (by simp)).chg c9 (by simp) (by simp)) (Or.inl ((H0.out.1.chg HCQ.out (Off.nil _)).chg c9 (Off.nil _))) (by have := H0.out.2; omega) (Ps.mk1 B9 (Or.inl (HSQ.out.chg c9 (Off.nil _)))) (by rw [cN_1]; have := HLB.out; omega)).mono ?_
              rintro e w10 ⟨rfl, k10⟩
              rw [cN_1, cF_1, HDG.out]
              have c10 := c9.trans1 k10
              by_cases h128 : (128 : Int) < (n0 : Int)
              · go_wp2_with fail
                go_ret
                exact ⟨rfl, HCQ.out.trans1 c10⟩
              · have HLZ : Hid (LL ≤ 128 ∧ n0 ≤ LL) := by have := HLL.out; have := HJ.out; exact ⟨by omega, by omega⟩
                have B11 := Blk.new w10 #[.slice px T cx] 22
                have k11 := (Chg.refl w10 []).alloc (.cells #[.slice px T cx] 22)
                go_wp2_with fail
                generalize w10.alloc (.cells #[.slice px T cx] 22) = w11 at *
                have c11 := c10.trans1 k11
                refine (MAC_s _ n0 f0 _ 1 _ _ _ w11 ((HG.out.chg HCQ.out (by simp) (by simp)).chg c11 (by simp) (by simp)) (Or.inl ((H0.out.1.chg HCQ.out (Off.nil _)).chg c11 (Off.nil _))) (by have := H0.out.2; omega) (Ps.mk1 B11 (Or.inl (HSQ.out.chg c11 (Off.nil _)))) (by rw [cN_1]; have := HLB.out; omega)).mono ?_
                rintro e w12 ⟨rfl, k12⟩
                rw [cN_1, cF_1, HDG.out]
                have c12 := c11.trans1 k12
                have B13 := Blk.new w12 #[.slice px T cx] 22
                have k13 := (Chg.refl w12 []).alloc (.cells #[.slice px T cx] 22)
                go_wp2_with fail
                generalize w12.alloc (.cells #[.slice px T cx] 22) = w13 at *
                have c13 := c12.trans1 k13
                refine (MAC_s _ LL (cat f0 n0 (fun _ => 0)) _ 1 _ _ _ w13 ((HG.out.chg HCQ.out (by simp) (by simp)).chg c13 (by simp) (by simp)) (Or.inl (HSL.out.chg c13 (Off.nil _))) (by have := HLB.out; omega) (Ps.mk1 B13 (Or.inl (HSQ.out.chg c13 (Off.nil _)))) (by rw [cN_1]; have := HLB.out; omega)).mono ?_
                rintro e w14 ⟨rfl, k14⟩
                rw [cN_1, cF_1, mac_zeros f0 HLZ.out.2 HLZ.out.1, HDG.out]
                go_wp2_with fail
                go_ret
                exact ⟨rfl, HCQ.out.trans1 (c13.trans1 k14)⟩
end Go.Proofs.YthpfdnkcepfbaaaDoor
