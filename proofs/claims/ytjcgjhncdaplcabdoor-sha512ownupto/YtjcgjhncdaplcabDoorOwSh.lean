/- Sha512Own: the walk. -/
import Derived.Test.YtjcgjhncdaplcabDoorBkY
import Derived.Test.YtjcgjhncdaplcabDoorOwN
set_option linter.unusedVariables false
set_option linter.unusedSimpArgs false
set_option linter.unnecessarySimpa false
namespace Go.Proofs.YtjcgjhncdaplcabDoor
open Go.RowKit

theorem field_tail (s : Nat → Nat) (a : Option Addr) (k c n : Nat) (W : World) : (Instr.field 31 (.agg (mC s (.slice a k c) n)) 1).run Tryd.prog W = .ok (.slice a k c) W := by kernel_rfl
def bNil : Nat → Value := fun _ => .slice none 0 0
theorem zBook : #[Value.slice none 0 0, .slice none 0 0, .slice none 0 0, .slice none 0 0, .slice none 0 0, .slice none 0 0, .slice none 0 0, .slice none 0 0, .slice none 0 0, .slice none 0 0, .slice none 0 0, .slice none 0 0, .slice none 0 0, .slice none 0 0, .slice none 0 0, .slice none 0 0, .slice none 0 0, .slice none 0 0, .slice none 0 0, .slice none 0 0, .slice none 0 0] = bkC bNil := by kernel_rfl
theorem Sl.form {w : World} {v : Value} {n : Nat} {f : Nat → Nat} (h : Sl w v n f) : ∃ p c, v = .slice p n c := by
  rcases h with ⟨rfl, rfl⟩ | ⟨g, o, cap, rfl, _⟩
  · exact ⟨none, 0, rfl⟩
  · exact ⟨_, _, rfl⟩
theorem Hs.blk {w : World} {h : Nat} {f : Nat → Nat} {N : Nat} (H : Hs w h f N) : ∃ C, Blk w h C 63 := by
  obtain ⟨t, B, _⟩ := H
  exact ⟨_, B⟩
theorem Hs.new {w : World} {h : Nat} (A : Blk w h (hC IV (fun _ => 0) 0) 63) : Hs w h (fun _ => 0) 0 := ⟨fun _ => 0, A, fun _ _ => Nat.zero_lt_succ _, fun j hj => absurd hj (Nat.not_lt_zero _)⟩
/-- A Hasher's State and what Resume makes of it. -/
theorem State_hs (h N : Nat) (f : Nat → Nat) (w : World) (hN : N < 2305843009213693952) (H : Hs w h f N) : ∃ s t, (∀ j, j < 128 → t j < 256) ∧
    (Calls Tryd.prog 8 #[.pointer (some ⟨h, 0, none⟩)] w fun e w' => ∃ z, e = .returned (.agg (mC s (.slice (some ⟨z, 0, none⟩) (N % 128) (N % 128)) N)) ∧ w.heap.size ≤ z ∧ Chg w w' [] ∧ Blk w' z (yC (N % 128) t) 5) ∧
    ∀ (z : Nat) (W : World), Blk W z (yC (N % 128) t) 5 → Calls Tryd.prog 9 #[.agg (mC s (.slice (some ⟨z, 0, none⟩) (N % 128) (N % 128)) N)] W fun e w' => ∃ h', e = .returned (.tuple #[.pointer (some ⟨h', 0, none⟩), .int .i64 0]) ∧ W.heap.size ≤ h' ∧ Chg W w' [] ∧ Hs w' h' f N := by
  obtain ⟨t, B, ht1, ht2⟩ := H
  refine ⟨_, t, ht1, State_s h N _ t w (by unfold U; omega) ht1 B, fun z W hz => ?_⟩
  refine (Resume_s N _ t (some ⟨z, 0, none⟩) (N % 128) W hN (Or.inr ⟨z, 0, N % 128, rfl, Nat.le_refl _, by omega, hz.lt, fun j hj => ht1 j (by omega), fun j hj => by rw [Nat.zero_add, hz.cell, yC_get _ _ _ hj]⟩)).mono ?_
  rintro e w' ⟨h', t', he, hh, k, ht', ht'', B'⟩
  exact ⟨h', he, hh, k, t', B', ht', fun j hj => (ht'' j hj).trans (ht2 j hj)⟩
set_option maxHeartbeats 16000000 in
set_option maxRecDepth 100000 in
theorem own_w (pa pb : Option Addr) (ca cb n m : Nat) (fa fb : Nat → Nat) (w : World) (hG : Gl w) (ha : Sl w (.slice pa n ca) n fa) (hb : Sl w (.slice pb m cb) m fb) (hm : n + m ≤ 100000000) :
    Calls Tryd.prog 3 #[.slice pa n ca, .slice pb m cb] w fun e w' => e = .returned (.bool true) ∧ Chg w w' [] := by
  have hge := dGuard
  have HM : Hid (n + m ≤ 100000000) := hm
  have HG : Hid (∀ W, Chg w W [] → Gl W) := fun W h => hG.chg h (by simp) (by simp)
  have HA : Hid (∀ W, Chg w W [] → Sl W (.slice pa n ca) n fa) := fun W h => ha.chg h (Off.nil _)
  have HB : Hid (∀ W, Chg w W [] → Sl W (.slice pb m cb) m fb) := fun W h => hb.chg h (Off.nil _)
  have HOA : Hid (∀ h, w.heap.size ≤ h → Off (.slice pa n ca) [h]) := fun h hh => ha.new [h] (fun i hi => by simp at hi; omega)
  have HOB : Hid (∀ h, w.heap.size ≤ h → Off (.slice pb m cb) [h]) := fun h hh => hb.new [h] (fun i hi => by simp at hi; omega)
  have H2 : Hid (2 ≤ w.heap.size) := hG.lt
  have eu : IntKind.u64.wrap (n : Int) = (n : Int) := by rw [IntKind.wrap_u64]; omega
  have CC := Chg.refl w []
  clear ha hb hm hG
  go_enter Tryd.func3, Tryd.ntmps3
  go_wp2_with fail
  refine (alive_s _ (HG.out _ CC)).mono ?_
  rintro e w1 ⟨rfl, k⟩
  replace CC := CC.trans1 k
  clear k
  go_wp2_with fail
  refine (New_s _ (HG.out _ CC)).mono ?_
  rintro e w2 ⟨hx, rfl, k, hhx, A⟩
  have HHX : Hid (w.heap.size ≤ hx) := Nat.le_trans CC.size hhx
  have HX0 := Hs.new A
  have HXL : Hid (hx < w2.heap.size) := A.lt
  replace CC := CC.trans1 k
  clear A hhx
  clear k
  go_wp2_with fail
  refine (New_s _ (HG.out _ CC)).mono ?_
  rintro e w3 ⟨hy, rfl, k, hhy, A⟩
  have HHY : Hid (w.heap.size ≤ hy) := Nat.le_trans CC.size hhy
  have HXY : Hid (¬ hy = hx) := by have := HXL.out; show ¬ hy = hx; omega
  have HY0 := Hs.new A
  have HYL : Hid (hy < w3.heap.size) := A.lt
  replace CC := CC.trans1 k
  replace HX0 := HX0.chg k (by simp)
  have HXL3 : Hid (hx < w3.heap.size) := HX0.lt
  clear A hhy HXL
  clear k
  go_wp2_with fail
  refine (CopyBytes_s _ n fa _ (by have := HM.out; omega) (HA.out _ CC)).mono ?_
  rintro e w4 ⟨v4, rfl, OP, k⟩
  replace CC := CC.trans1 k
  replace HX0 := HX0.chg k (by simp)
  replace HY0 := HY0.chg k (by simp)
  clear k
  go_wp2_with fail
  have HPH : Hid (∀ q, q ∈ ob v4 → ¬ q = hx ∧ ¬ q = hy ∧ w.heap.size ≤ q) := fun q hq => by have h := OP.ob_ge q hq; have := HXL3.out; have := HYL.out; exact ⟨by omega, by omega, by have := (Nat.le_of_lt HYL.out); have := HHY.out; omega⟩
  have OFP : Off v4 [hx] := OP.off [hx] (fun i hi => by simp at hi; rw [hi]; exact HXL3.out)
  refine (Write_h hx 0 n (fun _ => 0) fa v4 _ (HG.out _ CC) HX0 (by have := HHX.out; have := H2.out; omega) OP.sl OFP (by have := HM.out; omega)).mono ?_
  rintro e w5 ⟨rfl, k, HX⟩
  rw [Nat.zero_add, cat_zero] at HX
  replace CC := CC.new k HHX.out
  replace HY0 := HY0.chg k (by simp; exact HXY.out)
  replace OP := OP.chg k (fun q hq hm => (HPH.out q hq).1 (by simpa using hm))
  clear k HX0 OFP
  go_wp2_with fail
  refine (Write_h hy 0 m (fun _ => 0) fb _ _ (HG.out _ CC) HY0 (by have := HHY.out; have := H2.out; omega) (HB.out _ CC) (HOB.out hy HHY.out) (by have := HM.out; omega)).mono ?_
  rintro e w6 ⟨rfl, k, HY⟩
  rw [Nat.zero_add, cat_zero] at HY
  replace CC := CC.new k HHY.out
  replace HX := HX.chg k (by simp; exact fun e => HXY.out e.symm)
  replace OP := OP.chg k (fun q hq hm => (HPH.out q hq).2.1 (by simpa using hm))
  clear k HY0
  obtain ⟨pp, cp, rfl, BP⟩ := OP.bz
  have HPP : Hid (∀ g, pp = some ⟨g, 0, none⟩ → ¬ g = hx ∧ ¬ g = hy ∧ w.heap.size ≤ g) := fun g hg => HPH.out g (by rw [hg, ob_slice]; simp)
  clear OP HPH
  generalize w3.heap.size = b3 at *
  go_wp2_with fail
  go_loopw [8] (fun t wr => ∃ i : Nat, i ≤ n ∧ t = .int .i64 (i : Int) ∧ BZ wr b3 pp n cp ∧ Hs wr hx fa n ∧ Hs wr hy fb m ∧ Chg w wr []) (fun t _ => ((n : Int) - intOf t).toNat)
  case atStart => exact ⟨0, Nat.zero_le _, rfl, BP, HX, HY, CC⟩
  case round =>
    clear BP HX HY CC
    obtain ⟨i, hi, rfl, BP, HX, HY, CC⟩ := hrel
    by_cases h8 : i = n
    · subst h8
      have hI : ¬ (i : Int) < (i : Int) := by omega
      clear hi BP HPP
      obtain ⟨n, hn⟩ : ∃ n, i = n := ⟨_, rfl⟩
      subst hn
      go_wp2_with fail
      have HN61 : Hid (i < 2305843009213693952) := by have := HM.out; show i < _; omega
      obtain ⟨s, tt, htt, HST0, HRS⟩ := State_hs hx i fa wr HN61.out HX
      refine HST0.mono ?_
      rintro e w7 ⟨zg, rfl, hzg, k, BZ0⟩
      have HZG : Hid (w.heap.size ≤ zg) := Nat.le_trans CC.size hzg
      have HZX : Hid (¬ zg = hx ∧ ¬ zg = hy) := by have := HX.lt; have := HY.lt; exact ⟨by omega, by omega⟩
      replace CC := CC.trans1 k
      have HW7 : Hid (w.heap.size ≤ w7.heap.size) := CC.size
      replace HX := HX.chg k (by simp)
      replace HY := HY.chg k (by simp)
      clear k hzg HST0
      have HRZ : Hid _ := HRS zg
      obtain ⟨M, hM⟩ : ∃ M, mC s (.slice (some ⟨zg, 0, none⟩) (i % 128) (i % 128)) i = M := ⟨_, rfl⟩
      have M8 : M[8]? = some (.slice (some ⟨zg, 0, none⟩) (i % 128) (i % 128)) := by rw [← hM]; exact mC_tail _ _ _
      have MS : M.size = 10 := by rw [← hM]; exact mC_size _ _ _
      have MO : M.all (·.oneCell') = true := by rw [← hM]; exact mC_one _ _ _ rfl
      rw [hM] at HRZ ⊢
      obtain ⟨r, hr⟩ : ∃ r, i % 128 = r := ⟨_, rfl⟩
      have HR1 : Hid (r < 128) := by show r < 128; omega
      rw [hr] at HRZ BZ0 M8
      clear hM hr HRS
      have A0 := Blk.new w7 zM 31
      have MI : Hid ((Tryd.prog.info? 31).map (·.size) = some M.size) := by show _ = some M.size; rw [MS]; exact MInfo
      have MZ : Hid (zM.size = M.size) := by show zM.size = M.size; rw [MS]; rfl
      have KA : Chg w7 ((w7.alloc (.cells zM 31)).setRow w7.heap.size M) [] := ((Chg.refl w7 []).alloc (.cells zM 31)).setRowNew (Nat.le_refl _) M
      have MG := A0.setRow M
      replace CC := CC.trans1 KA
      replace HX := HX.chg KA (by simp)
      replace HY := HY.chg KA (by simp)
      replace BZ0 := BZ0.chg KA (by simp)
      have HMW : Hid (w.heap.size ≤ w7.heap.size) := HW7.out
      clear KA
      go_wp2_with (first
        | (refine wpList_store_row rfl 31 _ _ rfl w7.heap.size M rfl rfl 31 _ A0 MI.out MZ.out MO ?_
           change wpList Tryd.prog _ _ _ _ ((w7.alloc (.cells zM 31)).setRow w7.heap.size M)
           clear A0
           generalize ((w7.alloc (.cells zM 31)).setRow w7.heap.size M) = w8 at *
           generalize w7.heap.size = mg at *)
        | (with_reducible refine load_b MG 31 (.tmp 9) Tryd.underlying31 ?_ ?_ ?_ ?_ ?_ ?_
           · rfl
           · rfl
           · rfl
           · rfl
           · exact MI.out))
      refine (HRZ.out _ BZ0).mono ?_
      rintro e w9 ⟨hz, rfl, hhz, k, HZ⟩
      have HHZ : Hid (w.heap.size ≤ hz) := Nat.le_trans CC.size hhz
      have HZN : Hid (¬ hz = hx ∧ ¬ hz = hy ∧ ¬ hz = zg ∧ ¬ hz = mg) := by have := HX.lt; have := HY.lt; have := BZ0.lt; have := MG.lt; exact ⟨by omega, by omega, by omega, by omega⟩
      have HMN : Hid (¬ mg = hx ∧ ¬ mg = hy ∧ ¬ mg = zg) := by obtain ⟨C1, b1⟩ := HX.blk; obtain ⟨C2, b2⟩ := HY.blk; exact ⟨MG.ne b1 (by decide), MG.ne b2 (by decide), MG.ne BZ0 (by decide)⟩
      replace CC := CC.trans1 k
      replace HX := HX.chg k (by simp)
      replace HY := HY.chg k (by simp)
      replace BZ0 := BZ0.chg k (by simp)
      replace MG := MG.chg k (by simp)
      clear k hhz HRZ htt
      have BQ : BZ w9 0 (some ⟨zg, 0, none⟩) r r := Or.inr ⟨zg, yC r tt, rfl, Nat.zero_le _, BZ0, by rw [yC_size], Nat.le_refl _, fun q hq => ⟨_, yC_get _ _ _ hq⟩⟩
      have HM8 : Hid (∀ W, Blk W mg M 31 → W.cell? ⟨mg, 8, none⟩ = some (.slice (some ⟨zg, 0, none⟩) r r)) := fun W h => by rw [h.cell]; exact M8
      clear BZ0 M8
      go_wp2_with fail
      go_loopw [12] (fun t wr => ∃ j : Nat, j ≤ r ∧ t = .int .i64 (j : Int) ∧ BZ wr 0 (some ⟨zg, 0, none⟩) r r ∧ Blk wr mg M 31 ∧ Hs wr hx fa i ∧ Hs wr hy fb m ∧ Hs wr hz fa i ∧ Chg w wr []) (fun t _ => ((r : Int) - intOf t).toNat)
      case atStart => exact ⟨0, Nat.zero_le _, rfl, BQ, MG, HX, HY, HZ, CC⟩
      case round =>
        clear BQ MG HX HY HZ CC
        obtain ⟨j, hj, rfl, BQ, MG, HX, HY, HZ, CC⟩ := hrel
        have c8 := HM8.out _ MG
        by_cases h9 : j = r
        · subst h9
          have hJ : ¬ (j : Int) < (j : Int) := by omega
          clear hj
          obtain ⟨j3, hj3⟩ : ∃ x, j + 3 = x := ⟨_, rfl⟩
          have HJ3 : Hid (j + 3 = j3) := hj3
          have hG3 : (3 : Int) ≤ (j3 : Int) := by omega
          have KA : Chg wr (wr.alloc (.cells #[.int .u8 1, .int .u8 2, .int .u8 3] 5)) [] := (Chg.refl wr []).alloc _
          obtain ⟨olds, ho1, ho2⟩ := (BQ.chg KA).olds
          have HO1 : Hid (olds.length = j * 1) := ho1
          have HOL : Hid (∀ b, (some (⟨zg, 0, none⟩ : Addr)) = some b → ∀ q u, olds[q]? = some u → (wr.alloc (.cells #[.int .u8 1, .int .u8 2, .int .u8 3] 5)).cell? (b.add q) = some u) := ho2
          have N3 := Blk.new wr #[.int .u8 1, .int .u8 2, .int .u8 3] 5
          have HNW : Hid (∀ q u, ([.int .u8 1, .int .u8 2, .int .u8 3] : List Value)[q]? = some u → (wr.alloc (.cells #[.int .u8 1, .int .u8 2, .int .u8 3] 5)).cell? ((⟨wr.heap.size, 0, none⟩ : Addr).add q) = some u) := fun q u hq => by
            refine add_cell ?_
            rw [Nat.zero_add, N3.cell]
            simpa using hq
          have H1C : Hid (∀ u ∈ ([.int .u8 1, .int .u8 2, .int .u8 3] : List Value), u.oneCell' = true) := by show ∀ u ∈ ([.int .u8 1, .int .u8 2, .int .u8 3] : List Value), u.oneCell' = true; simp [Value.oneCell']
          have HFU : Hid (j < j + 3) := by show j < j + 3; omega
          have H63 : Hid (j + 3 ≤ maxLen) := by have := HR1.out; show j + 3 ≤ maxLen; simp only [maxLen]; omega
          have HBY : Hid ((j + 3) * 1 ≤ 140737488355328) := by have := HR1.out; show (j + 3) * 1 ≤ 140737488355328; omega
          have HP3 : Hid (0 < j + 3) := by show 0 < j + 3; omega
          obtain ⟨inf, hinf, hz0, hs1, hs2⟩ := u8Row
          clear ho1 ho2 N3 BQ hj3
          go_wp2_with (with_reducible refine wpList_append_grows _ ?_ (.tmp 78) (.tmp 79) 22 ?_ 5 inf (.int .u8 0) 1 1 Tryd.underlying22 hinf hz0 hs1 hs2 ?_ ?_ (some ⟨zg, 0, none⟩) j j olds ?_ ?_ HO1.out HOL.out ⟨wr.heap.size, 0, none⟩ 3 3 [.int .u8 1, .int .u8 2, .int .u8 3] ?_ ?_ HNW.out H1C.out HFU.out H63.out HBY.out ?_
                       · rfl
                       · rfl
                       · rfl
                       · decide
                       · rfl
                       · (intro hh; cases hh)
                       · rfl
                       · rfl
                       intro v10 w10 O10 G10
                       have K10 : Chg wr w10 [] := KA.trans1 (Chg.grown (v := .slice none 0 0) G10)
                       obtain ⟨lg, lc, hv10, _, _⟩ := O10.form HP3.out
                       subst hv10
                       rw [HJ3.out]
                       have MG10 := MG.chg K10 (by simp)
                       have cm := HM8.out _ MG10
                       have fm := MG10.frozen 8
                       clear G10 O10)
          have K11 : Chg wr (w10.setCell ⟨mg, 8, none⟩ (.slice (some ⟨lg, 0, none⟩) j3 lc)) [mg] := (K10.wide).setIn (k := mg) (by simp) 8 _
          have MG11 : Blk (w10.setCell ⟨mg, 8, none⟩ (.slice (some ⟨lg, 0, none⟩) j3 lc)) mg (M.setIfInBounds 8 (.slice (some ⟨lg, 0, none⟩) j3 lc)) 31 := MG10.setCell 8 _
          have HT8 : Hid ((M.setIfInBounds 8 (.slice (some ⟨lg, 0, none⟩) j3 lc))[8]? = some (.slice (some ⟨lg, 0, none⟩) j3 lc)) := by show (M.setIfInBounds 8 _)[8]? = _; rw [Array.getElem?_setIfInBounds_self_of_lt (by omega)]
          replace HX := HX.chg K11 (by simp; exact fun e => HMN.out.1 e.symm)
          replace HY := HY.chg K11 (by simp; exact fun e => HMN.out.2.1 e.symm)
          replace HZ := HZ.chg K11 (by simp; exact HZN.out.2.2.2)
          replace CC := CC.new K11 HMW.out
          clear K11 MG10 cm fm MG c8 KA K10 MS MO MI MZ HM8
          generalize M.setIfInBounds 8 (.slice (some ⟨lg, 0, none⟩) j3 lc) = M2 at *
          generalize w10.setCell ⟨mg, 8, none⟩ (.slice (some ⟨lg, 0, none⟩) j3 lc) = w11 at *
          refine (Write_h hz i m fa fb _ _ (HG.out _ CC) HZ (by have := HHZ.out; have := H2.out; omega) (HB.out _ CC) (HOB.out hz HHZ.out) (by have := HM.out; omega)).mono ?_
          rintro e w12 ⟨rfl, k, HZ⟩
          replace HX := HX.chg k (by simp; exact fun e => HZN.out.1 e.symm)
          replace HY := HY.chg k (by simp; exact fun e => HZN.out.2.1 e.symm)
          replace MG11 := MG11.chg k (by simp; exact fun e => HZN.out.2.2.2 e.symm)
          replace CC := CC.new k HHZ.out
          clear k
          go_wp2_with fail
          refine (Write_h hx i m fa fb _ _ (HG.out _ CC) HX (by have := HHX.out; have := H2.out; omega) (HB.out _ CC) (HOB.out hx HHX.out) (by have := HM.out; omega)).mono ?_
          rintro e w13 ⟨rfl, k, HX⟩
          replace HZ := HZ.chg k (by simp; exact HZN.out.1)
          replace HY := HY.chg k (by simp; exact HXY.out)
          replace MG11 := MG11.chg k (by simp; exact HMN.out.1)
          replace CC := CC.new k HHX.out
          clear k
          have HXL : Hid (hx < w13.heap.size ∧ hy < w13.heap.size ∧ hz < w13.heap.size ∧ mg < w13.heap.size) := ⟨HX.lt, HY.lt, HZ.lt, MG11.lt⟩
          have HW13 : Hid (w.heap.size ≤ w13.heap.size) := CC.size
          have HSA := HA.out _ CC
          have HNL : Hid (0 + i ≤ 211106232532992 ∧ i + m ≤ 211106232532992) := by have := HM.out; exact ⟨by omega, by omega⟩
          go_wp2_with (first
            | (with_reducible refine append_y ?_ (.tmp 90) (.tmp 91) ?_ w13.heap.size (.slice none 0 0) (.slice pa i ca) 0 i fa fa ?_ ?_ (Own.nil _ _ fa) HSA HNL.out.1 (Nat.le_refl _) ?_
               · rfl
               · rfl
               · rfl
               · rfl
               intro v14 w14 O14 k14
               rw [Nat.zero_add, cat_zero] at O14
               replace k14 : Chg w13 w14 [] := k14
               replace CC := CC.trans1 k14
               replace HX := HX.chg k14 (by simp)
               replace HY := HY.chg k14 (by simp)
               replace HZ := HZ.chg k14 (by simp)
               replace MG11 := MG11.chg k14 (by simp)
               have H14 : Hid (w13.heap.size ≤ w14.heap.size) := k14.size
               have HSB := HB.out _ CC
               clear k14 HSA)
            | (with_reducible refine append_y ?_ (.tmp 93) (.tmp 94) ?_ w13.heap.size v14 (.slice pb m cb) i m fa fb ?_ ?_ O14 HSB HNL.out.2 H14.out ?_
               · rfl
               · rfl
               · rfl
               · rfl
               intro v15 w15 O15 k15
               have hob : ∀ q, q ∈ ob v14 → w13.heap.size ≤ q := fun q hq => (O14.ob_ge q hq).1
               replace CC := CC.trans k15 (fun q hq => Or.inr (Nat.le_trans HW13.out (hob q hq)))
               replace HX := HX.chg k15 (fun hm => by have := hob _ hm; have := HXL.out.1; omega)
               replace HY := HY.chg k15 (fun hm => by have := hob _ hm; have := HXL.out.2.1; omega)
               replace HZ := HZ.chg k15 (fun hm => by have := hob _ hm; have := HXL.out.2.2.1; omega)
               replace MG11 := MG11.chg k15 (fun hm => by have := hob _ hm; have := HXL.out.2.2.2; omega)
               clear k15 hob O14 HSB))
          rw [zBook]
          have GB0 := Blk.new w15 (bkC bNil) 58
          have KB : Chg w15 (w15.alloc (.cells (bkC bNil) 58)) [] := (Chg.refl w15 []).alloc _
          have HGB : Hid (w.heap.size ≤ w15.heap.size) := CC.size
          have HOAL : Hid (∀ q, q ∈ ob v15 → q < w15.heap.size) := fun q hq => (O15.ob_ge q hq).2
          replace CC := CC.trans1 KB
          replace HX := HX.chg KB (by simp)
          replace HY := HY.chg KB (by simp)
          replace HZ := HZ.chg KB (by simp)
          replace MG11 := MG11.chg KB (by simp)
          replace O15 := O15.chg KB (by simp)
          clear KB hinf hz0 hs1 hs2 HO1 HOL HNW H1C HFU H63 HBY HP3
          generalize w15.alloc (.cells (bkC bNil) 58) = w16 at *
          generalize w15.heap.size = gb at *
          have HGL : Hid (gb < w16.heap.size) := GB0.lt
          have BK : BkY w16 gb gb w16.heap.size [] 0 := BkY.zero (fun _ _ => rfl) GB0 (Nat.le_refl _)
          have HNZ : Hid (0 < 17 + zr i ∧ 17 + zr i ≤ 4398046510976) := ⟨by omega, by unfold zr; omega⟩
          clear GB0
          refine (Pad_s i _ HN61.out).mono ?_
          rintro e w17 ⟨v17, rfl, O17, k⟩
          obtain ⟨g1, d1, rfl, hg1, L1⟩ := O17.bl HNZ.out.1
          have Hg1 : Hid (w16.heap.size ≤ g1 ∧ g1 < w17.heap.size) := ⟨hg1, L1.lt⟩
          have HS17 : Hid (w16.heap.size ≤ w17.heap.size) := k.size
          replace CC := CC.trans1 k
          replace HX := HX.chg k (by simp)
          replace HY := HY.chg k (by simp)
          replace HZ := HZ.chg k (by simp)
          replace MG11 := MG11.chg k (by simp)
          replace O15 := O15.chg k (by simp)
          replace BK := BK.chg k
          clear k hg1 O17
          go_wp2_with fail
          refine (Pad_s i _ HN61.out).mono ?_
          rintro e w18 ⟨v18, rfl, O18, k⟩
          obtain ⟨g2, d2, rfl, hg2, L2⟩ := O18.bl HNZ.out.1
          have Hg2 : Hid (w17.heap.size ≤ g2 ∧ g2 < w18.heap.size) := ⟨hg2, L2.lt⟩
          have HS18 : Hid (w17.heap.size ≤ w18.heap.size) := k.size
          replace CC := CC.trans1 k
          replace HX := HX.chg k (by simp)
          replace HY := HY.chg k (by simp)
          replace HZ := HZ.chg k (by simp)
          replace MG11 := MG11.chg k (by simp)
          replace O15 := O15.chg k (by simp)
          replace L1 := L1.chg k (by simp)
          replace BK := BK.chg k
          clear k hg2 O18
          go_wp2_with fail
          refine (BK.add (by decide) HNZ.out.2 L1 Hg1.out.1 (by simp)).mono ?_
          rintro e w19 ⟨rfl, ⟨K1, HK1, BK⟩, l, k, hl, far⟩
          have HS19 : Hid (w18.heap.size ≤ w19.heap.size) := k.size
          replace HK1 : Hid (K1 ≤ 0 + 1) := HK1
          replace HX := HX.chg k (by obtain ⟨C, b⟩ := HX.blk; exact far _ (by decide) (by decide) _ _ b)
          replace HY := HY.chg k (by obtain ⟨C, b⟩ := HY.blk; exact far _ (by decide) (by decide) _ _ b)
          replace HZ := HZ.chg k (by obtain ⟨C, b⟩ := HZ.blk; exact far _ (by decide) (by decide) _ _ b)
          replace MG11 := MG11.chg k (far _ (by decide) (by decide) _ _ MG11)
          replace O15 := O15.chg k (fun q hq => by obtain ⟨C, hC⟩ := ownsRow_blk O15.1 hq; exact far _ (by decide) (by decide) q C hC)
          replace L2 := L2.chg k (by obtain ⟨C, hC, _⟩ := L2; exact far _ (by decide) (by decide) _ _ hC)
          replace CC := CC.trans k (fun q hq => Or.inr (Nat.le_trans HGB.out (hl q hq)))
          clear k hl far l L1
          go_wp2_with fail
          refine (BK.add (by have := HK1.out; omega) HNZ.out.2 L2 (by have := Hg2.out; have := HS17.out; omega) (by have := Hg1.out; have := Hg2.out; simp; omega)).mono ?_
          rintro e w20 ⟨rfl, ⟨K2, HK2, BK⟩, l, k, hl, far⟩
          have HS20 : Hid (w19.heap.size ≤ w20.heap.size) := k.size
          replace HK2 : Hid (K2 ≤ K1 + 1) := HK2
          replace HX := HX.chg k (by obtain ⟨C, b⟩ := HX.blk; exact far _ (by decide) (by decide) _ _ b)
          replace HY := HY.chg k (by obtain ⟨C, b⟩ := HY.blk; exact far _ (by decide) (by decide) _ _ b)
          replace HZ := HZ.chg k (by obtain ⟨C, b⟩ := HZ.blk; exact far _ (by decide) (by decide) _ _ b)
          replace MG11 := MG11.chg k (far _ (by decide) (by decide) _ _ MG11)
          replace O15 := O15.chg k (fun q hq => by obtain ⟨C, hC⟩ := ownsRow_blk O15.1 hq; exact far _ (by decide) (by decide) q C hC)
          replace CC := CC.trans k (fun q hq => Or.inr (Nat.le_trans HGB.out (hl q hq)))
          clear k hl far l L2
          go_wp2_with fail
          have HNM : Hid (i + m < 2305843009213693952 ∧ i + m < 18446744073709551616 ∧ m < 18446744073709551616) := by have := HM.out; exact ⟨by omega, by omega, by omega⟩
          obtain ⟨s3, t3, ht3, HS3, _⟩ := State_hs hx (i + m) (cat fa i fb) _ HNM.out.1 HX
          refine HS3.mono ?_
          rintro e w21 ⟨z3, rfl, hz3, k, B3⟩
          have Hz3 : Hid (w20.heap.size ≤ z3 ∧ z3 < w21.heap.size) := ⟨hz3, B3.lt⟩
          have HT3 : Hid (w20.heap.size ≤ w21.heap.size) := k.size
          replace CC := CC.trans1 k
          replace HX := HX.chg k (by simp)
          replace HY := HY.chg k (by simp)
          replace HZ := HZ.chg k (by simp)
          replace MG11 := MG11.chg k (by simp)
          replace O15 := O15.chg k (by simp)
          replace BK := BK.chg k
          have hf3 := fun W => field_tail s3 (some ⟨z3, 0, none⟩) ((i + m) % 128) ((i + m) % 128) (i + m) W
          obtain ⟨M3, hM3⟩ : ∃ M, mC s3 (.slice (some ⟨z3, 0, none⟩) ((i + m) % 128) ((i + m) % 128)) (i + m) = M := ⟨_, rfl⟩
          have L3 := Blk.bl B3 (by omega)
          rw [hM3] at hf3 ⊢
          obtain ⟨r3, hr3⟩ : ∃ r, (i + m) % 128 = r := ⟨_, rfl⟩
          rw [hr3] at hf3 L3
          have HR3 : Hid (r3 ≤ 4398046510976) := by show r3 ≤ _; omega
          clear hM3 hr3 k HS3 ht3 B3 hz3
          go_wp2_with fail
          refine (BK.add (by have := HK1.out; have := HK2.out; omega) HR3.out L3 (by have := Hz3.out; have := HS17.out; have := HS18.out; have := HS19.out; have := HS20.out; omega) (by have := Hg1.out; have := Hg2.out; have := Hz3.out; have := HS18.out; have := HS19.out; have := HS20.out; simp; omega)).mono ?_
          rintro e w22 ⟨rfl, ⟨K3, HK3, BK⟩, l, k, hl, far⟩
          have HS22 : Hid (w21.heap.size ≤ w22.heap.size) := k.size
          replace HK3 : Hid (K3 ≤ K2 + 1) := HK3
          replace HX := HX.chg k (by obtain ⟨C, b⟩ := HX.blk; exact far _ (by decide) (by decide) _ _ b)
          replace HY := HY.chg k (by obtain ⟨C, b⟩ := HY.blk; exact far _ (by decide) (by decide) _ _ b)
          replace HZ := HZ.chg k (by obtain ⟨C, b⟩ := HZ.blk; exact far _ (by decide) (by decide) _ _ b)
          replace MG11 := MG11.chg k (far _ (by decide) (by decide) _ _ MG11)
          replace O15 := O15.chg k (fun q hq => by obtain ⟨C, hC⟩ := ownsRow_blk O15.1 hq; exact far _ (by decide) (by decide) q C hC)
          replace CC := CC.trans k (fun q hq => Or.inr (Nat.le_trans HGB.out (hl q hq)))
          clear k hl far l L3 hf3
          go_wp2_with fail
          obtain ⟨s4, t4, ht4, HS4, _⟩ := State_hs hx (i + m) (cat fa i fb) _ HNM.out.1 HX
          refine HS4.mono ?_
          rintro e w23 ⟨z4, rfl, hz4, k, B4⟩
          have Hz4 : Hid (w22.heap.size ≤ z4 ∧ z4 < w23.heap.size) := ⟨hz4, B4.lt⟩
          have HT4 : Hid (w22.heap.size ≤ w23.heap.size) := k.size
          replace CC := CC.trans1 k
          replace HX := HX.chg k (by simp)
          replace HY := HY.chg k (by simp)
          replace HZ := HZ.chg k (by simp)
          replace MG11 := MG11.chg k (by simp)
          replace O15 := O15.chg k (by simp)
          replace BK := BK.chg k
          have hf4 := fun W => field_tail s4 (some ⟨z4, 0, none⟩) ((i + m) % 128) ((i + m) % 128) (i + m) W
          obtain ⟨M4, hM4⟩ : ∃ M, mC s4 (.slice (some ⟨z4, 0, none⟩) ((i + m) % 128) ((i + m) % 128)) (i + m) = M := ⟨_, rfl⟩
          have L4 := Blk.bl B4 (by omega)
          rw [hM4] at hf4 ⊢
          obtain ⟨r4, hr4⟩ : ∃ r, (i + m) % 128 = r := ⟨_, rfl⟩
          rw [hr4] at hf4 L4
          have HR4 : Hid (r4 ≤ 4398046510976) := by show r4 ≤ _; omega
          clear hM4 hr4 k HS4 ht4 B4 hz4
          go_wp2_with fail
          refine (BK.add (by have := HK1.out; have := HK2.out; have := HK3.out; omega) HR4.out L4 (by have := Hz4.out; have := HT3.out; have := HS22.out; have := HS17.out; have := HS18.out; have := HS19.out; have := HS20.out; omega) (by have := Hg1.out; have := Hg2.out; have := Hz3.out; have := Hz4.out; have := HT3.out; have := HS22.out; have := HS18.out; have := HS19.out; have := HS20.out; simp; omega)).mono ?_
          rintro e w24 ⟨rfl, ⟨K4, HK4, BK⟩, l, k, hl, far⟩
          have HS24 : Hid (w23.heap.size ≤ w24.heap.size) := k.size
          replace HK4 : Hid (K4 ≤ K3 + 1) := HK4
          replace HX := HX.chg k (by obtain ⟨C, b⟩ := HX.blk; exact far _ (by decide) (by decide) _ _ b)
          replace HY := HY.chg k (by obtain ⟨C, b⟩ := HY.blk; exact far _ (by decide) (by decide) _ _ b)
          replace HZ := HZ.chg k (by obtain ⟨C, b⟩ := HZ.blk; exact far _ (by decide) (by decide) _ _ b)
          replace MG11 := MG11.chg k (far _ (by decide) (by decide) _ _ MG11)
          replace O15 := O15.chg k (fun q hq => by obtain ⟨C, hC⟩ := ownsRow_blk O15.1 hq; exact far _ (by decide) (by decide) q C hC)
          replace CC := CC.trans k (fun q hq => Or.inr (Nat.le_trans HGB.out (hl q hq)))
          clear k hl far l L4 hf4
          have NB := Blk.new w24 Tryd.zeroCells63 63
          have KZ : Chg w24 (w24.alloc (.cells Tryd.zeroCells63 63)) [] := (Chg.refl w24 []).alloc _
          replace CC := CC.trans1 KZ
          replace HX := HX.chg KZ (by simp)
          replace HY := HY.chg KZ (by simp)
          replace HZ := HZ.chg KZ (by simp)
          replace MG11 := MG11.chg KZ (by simp)
          replace O15 := O15.chg KZ (by simp)
          replace BK := BK.chg KZ
          clear KZ
          have cT := (MG11.cell 8).trans HT8.out
          obtain ⟨D, hD⟩ : ∃ D, yC 64 (sha (cat fa i fb) (i + m)) = D := ⟨_, rfl⟩
          obtain ⟨E, hE⟩ : ∃ E, yC 64 (sha fb m) = E := ⟨_, rfl⟩
          have HSX : Hid (∀ W h, Gl W → Hs W h (cat fa i fb) (i + m) → Calls Tryd.prog 13 #[.pointer (some ⟨h, 0, none⟩)] W fun e w' => e = .returned (.agg D) ∧ Chg W w' []) := fun W h g H => by rw [← hD]; exact Sum_h h (i + m) _ W g H HNM.out.2.1
          have HSS : Hid (∀ W, Gl W → Sl W v15 (i + m) (cat fa i fb) → Calls Tryd.prog 14 #[v15] W fun e w' => e = .returned (.agg D) ∧ Chg W w' []) := fun W g H => by rw [← hD]; exact Sum_s v15 (i + m) _ W g H HNM.out.2.1
          have HSY : Hid (∀ W, Gl W → Hs W hy fb m → Calls Tryd.prog 13 #[.pointer (some ⟨hy, 0, none⟩)] W fun e w' => e = .returned (.agg E) ∧ Chg W w' []) := fun W g H => by rw [← hE]; exact Sum_h hy m _ W g H HNM.out.2.2
          have HSB : Hid (∀ W, Gl W → Sl W (.slice pb m cb) m fb → Calls Tryd.prog 14 #[.slice pb m cb] W fun e w' => e = .returned (.agg E) ∧ Chg W w' []) := fun W g H => by rw [← hE]; exact Sum_s _ m _ W g H HNM.out.2.2
          have heqD : ∀ W, (Op.equalIn 10000 65 (.agg D) (.agg D)).run Tryd.prog W = .ok true W := fun W => by rw [← hD, eq_dig, eqy_self]
          have heqE : ∀ W, (Op.equalIn 10000 65 (.agg E) (.agg E)).run Tryd.prog W = .ok true W := fun W => by rw [← hE, eq_dig, eqy_self]
          have HBO : Hid (w.heap.size ≤ w16.heap.size) := Nat.le_trans HGB.out (Nat.le_of_lt HGL.out)
          clear hD hE
          go_wp2_with fail
          refine (BK.apart (by have := HK1.out; have := HK2.out; have := HK3.out; have := HK4.out; omega)).mono ?_
          rintro e w26 ⟨rfl, l, k, hl, far⟩
          replace HX := HX.chg k (by obtain ⟨C, b⟩ := HX.blk; exact far _ (by decide) _ _ b)
          replace HY := HY.chg k (by obtain ⟨C, b⟩ := HY.blk; exact far _ (by decide) _ _ b)
          replace HZ := HZ.chg k (by obtain ⟨C, b⟩ := HZ.blk; exact far _ (by decide) _ _ b)
          replace NB := NB.chg k (far _ (by decide) _ _ NB)
          replace O15 := O15.chg k (fun q hq hm => by have := HOAL.out q hq; have := HGL.out; have := hl q hm; omega)
          replace CC := CC.trans k (fun q hq => Or.inr (Nat.le_trans HBO.out (hl q hq)))
          clear k hl far l BK MG11 cT
          go_wp2_with fail
          refine (HSX.out _ hx (HG.out _ CC) HX).mono ?_
          rintro e w27 ⟨rfl, k⟩
          replace CC := CC.trans1 k
          replace HX := HX.chg k (by simp)
          replace HY := HY.chg k (by simp)
          replace HZ := HZ.chg k (by simp)
          replace O15 := O15.chg k (by simp)
          replace NB := NB.chg k (by simp)
          clear k
          go_wp2_with fail
          refine (HSS.out _ (HG.out _ CC) O15.sl).mono ?_
          rintro e w28 ⟨rfl, k⟩
          replace CC := CC.trans1 k
          replace HX := HX.chg k (by simp)
          replace HY := HY.chg k (by simp)
          replace HZ := HZ.chg k (by simp)
          replace O15 := O15.chg k (by simp)
          replace NB := NB.chg k (by simp)
          clear k
          go_wp2_with fail
          refine (HSX.out _ hz (HG.out _ CC) HZ).mono ?_
          rintro e w29 ⟨rfl, k⟩
          replace CC := CC.trans1 k
          replace HX := HX.chg k (by simp)
          replace HY := HY.chg k (by simp)
          replace HZ := HZ.chg k (by simp)
          replace O15 := O15.chg k (by simp)
          replace NB := NB.chg k (by simp)
          clear k
          go_wp2_with fail
          refine (HSS.out _ (HG.out _ CC) O15.sl).mono ?_
          rintro e w30 ⟨rfl, k⟩
          replace CC := CC.trans1 k
          replace HX := HX.chg k (by simp)
          replace HY := HY.chg k (by simp)
          replace HZ := HZ.chg k (by simp)
          replace O15 := O15.chg k (by simp)
          replace NB := NB.chg k (by simp)
          clear k
          go_wp2_with fail
          refine (HSY.out _ (HG.out _ CC) HY).mono ?_
          rintro e w31 ⟨rfl, k⟩
          replace CC := CC.trans1 k
          replace HX := HX.chg k (by simp)
          replace HY := HY.chg k (by simp)
          replace HZ := HZ.chg k (by simp)
          replace O15 := O15.chg k (by simp)
          replace NB := NB.chg k (by simp)
          clear k
          go_wp2_with fail
          refine (HSB.out _ (HG.out _ CC) (HB.out _ CC)).mono ?_
          rintro e w32 ⟨rfl, k⟩
          replace CC := CC.trans1 k
          replace HX := HX.chg k (by simp)
          replace HY := HY.chg k (by simp)
          replace HZ := HZ.chg k (by simp)
          replace O15 := O15.chg k (by simp)
          replace NB := NB.chg k (by simp)
          clear k
          go_wp2_with fail
          refine (nothing_s none pa i ca _ (Or.inl rfl)).mono ?_
          rintro e w33 ⟨rfl, k⟩
          replace CC := CC.trans1 k
          replace HX := HX.chg k (by simp)
          replace HY := HY.chg k (by simp)
          replace HZ := HZ.chg k (by simp)
          replace O15 := O15.chg k (by simp)
          replace NB := NB.chg k (by simp)
          clear k
          go_wp2_with fail
          refine (nothing_s _ pa i ca _ (Or.inr ⟨_, rfl, NB⟩)).mono ?_
          rintro e w34 ⟨rfl, k⟩
          replace CC := CC.trans1 k
          replace HX := HX.chg k (by simp)
          replace HY := HY.chg k (by simp)
          replace HZ := HZ.chg k (by simp)
          replace O15 := O15.chg k (by simp)
          replace NB := NB.chg k (by simp)
          clear k
          go_wp2_with fail
          go_ret
          exact ⟨rfl, CC⟩
        · have hjr : j < r := by omega
          have hJ : (j : Int) < (r : Int) := by omega
          have e1 : IntKind.i64.wrap ((j : Int) + 1) = (j : Int) + 1 := by have := HR1.out; rw [IntKind.wrap_i64]; omega
          have HIN : Hid (j < r) := hjr
          have HMs : Hid ((((r : Int)) - intOf (.int .i64 ((j : Int) + 1))).toNat < (((r : Int)) - intOf (.int .i64 (j : Int))).toNat) := by show ((((r : Int)) - intOf (.int .i64 ((j : Int) + 1))).toNat < (((r : Int)) - intOf (.int .i64 (j : Int))).toNat); simp [intOf] <;> omega
          have KD : Chg wr wr.drew [] := (Chg.refl wr []).drew
          obtain ⟨g, zz, hg, _, _, _, hic, cg, fg, hset⟩ := (BQ.chg KD).at hjr
          obtain rfl : zg = g := by simpa using hg
          have HSET : Hid (∀ v : Int, BZ (wr.drew.setCell ⟨zg, j, none⟩ (.int .u8 v)) 0 (some ⟨zg, 0, none⟩) r r) := hset
          have HST : Hid (∀ v : Value, Blk (wr.drew.setCell ⟨zg, j, none⟩ v) mg M 31 ∧ Hs (wr.drew.setCell ⟨zg, j, none⟩ v) hx fa i ∧ Hs (wr.drew.setCell ⟨zg, j, none⟩ v) hy fb m ∧ Hs (wr.drew.setCell ⟨zg, j, none⟩ v) hz fa i ∧ Chg w (wr.drew.setCell ⟨zg, j, none⟩ v) []) := fun v => by
            have kk : Chg wr (wr.drew.setCell ⟨zg, j, none⟩ v) [zg] := (KD.wide).setIn (k := zg) (by simp) j v
            exact ⟨MG.chg kk (by simp; exact HMN.out.2.2), HX.chg kk (by simp; exact fun e => HZX.out.1 e.symm), HY.chg kk (by simp; exact fun e => HZX.out.2 e.symm), HZ.chg kk (by simp; exact HZN.out.2.2.1), CC.new kk HZG.out⟩
          have HC8 : Hid (∀ W, Chg wr W [zg] → W.cell? ⟨mg, 8, none⟩ = some (.slice (some ⟨zg, 0, none⟩) r r)) := fun W h => HM8.out W (MG.chg h (by simp; exact HMN.out.2.2))
          clear BQ HX HY HZ CC hset hjr h9 hj hic hg KD
          go_wp2_with fail
          refine wp_region_held_drew (S := fun w' => Chg wr w' [zg]) (by kernel_rfl) ((Chg.refl wr _).drew) (fun hHeld => ?_)
          refine take_val (v := ?_) 0 (some 67) rfl (by kernel_rfl) (by kernel_rfl) (by kernel_rfl) (fun _ _ _ h => h) rfl rfl (fun w hSw => ?_) hHeld ?_
          rotate_left
          · (go_simp; try with_reducible rfl)
          try simp only [Act.put, List.setIfInBounds_toArray, List.set_cons_zero, List.set_cons_succ]
          refine take_val (v := (.slice (some ⟨zg, 0, none⟩) r r)) 1 (some 68) rfl (by kernel_rfl) (by kernel_rfl) (by kernel_rfl) (fun _ _ _ h => h) rfl rfl (fun w hSw => ?_) hHeld ?_
          · have c4 := HC8.out w hSw
            (go_simp; try with_reducible rfl)
          try simp only [Act.put, List.setIfInBounds_toArray, List.set_cons_zero, List.set_cons_succ]
          refine take_val (v := ?_) 2 (some 69) rfl (by kernel_rfl) (by kernel_rfl) (by kernel_rfl) (fun _ _ _ h => h) rfl rfl (fun w hSw => ?_) hHeld ?_
          rotate_left
          · (go_simp; try with_reducible rfl)
          try simp only [Act.put, List.setIfInBounds_toArray, List.set_cons_zero, List.set_cons_succ]
          refine take_val (v := ?_) 3 (some 70) rfl (by kernel_rfl) (by kernel_rfl) (by kernel_rfl) (fun _ _ _ h => h) rfl rfl (fun w hSw => ?_) hHeld ?_
          rotate_left
          · (go_simp; try with_reducible rfl)
          try simp only [Act.put, List.setIfInBounds_toArray, List.set_cons_zero, List.set_cons_succ]
          refine take_val (v := (.slice (some ⟨zg, 0, none⟩) r r)) 4 (some 71) rfl (by kernel_rfl) (by kernel_rfl) (by kernel_rfl) (fun _ _ _ h => h) rfl rfl (fun w hSw => ?_) hHeld ?_
          · have c4 := HC8.out w hSw
            (go_simp; try with_reducible rfl)
          try simp only [Act.put, List.setIfInBounds_toArray, List.set_cons_zero, List.set_cons_succ]
          refine take_val (v := ?_) 5 (some 72) rfl (by kernel_rfl) (by kernel_rfl) (by kernel_rfl) (fun _ _ _ h => h) rfl rfl (fun w hSw => ?_) hHeld ?_
          rotate_left
          · (go_simp; try with_reducible rfl)
          try simp only [Act.put, List.setIfInBounds_toArray, List.set_cons_zero, List.set_cons_succ]
          refine take_val (v := ?_) 6 (some 73) rfl (by kernel_rfl) (by kernel_rfl) (by kernel_rfl) (fun _ _ _ h => h) rfl rfl (fun w hSw => ?_) hHeld ?_
          rotate_left
          · (go_simp; try with_reducible rfl)
          try simp only [Act.put, List.setIfInBounds_toArray, List.set_cons_zero, List.set_cons_succ]
          refine wpAnyH_ready (rs := [7]) (by kernel_rfl) (by simp) ?_
          refine AllReadyH.cons (o := _) rfl (fun K hK => ?_) ?_
          ·
            rw [if_pos (by rfl)]
            go_simp
            refine hK.out _ _ (hHeld) (fun hHeld => ?_)
            clear hK K
            try simp only [Act.put, List.setIfInBounds_toArray, List.set_cons_zero, List.set_cons_succ]
            refine take_val (v := ?_) 8 (some 75) rfl (by kernel_rfl) (by kernel_rfl) (by kernel_rfl) (fun _ _ _ h => h) rfl rfl (fun w hSw => ?_) hHeld ?_
            rotate_left
            · (go_simp; try with_reducible rfl)
            try simp only [Act.put, List.setIfInBounds_toArray, List.set_cons_zero, List.set_cons_succ]
            refine take_val (v := ?_) 9 (some 76) rfl (by kernel_rfl) (by kernel_rfl) (by kernel_rfl) (fun _ _ _ h => h) rfl rfl (fun w hSw => ?_) hHeld ?_
            rotate_left
            · (go_simp; try with_reducible rfl)
            try simp only [Act.put, List.setIfInBounds_toArray, List.set_cons_zero, List.set_cons_succ]
            refine wpAnyH_ready (rs := [10]) (by kernel_rfl) (by simp) ?_
            refine AllReadyH.cons (o := _) rfl (fun K hK => ?_) ?_
            ·
              rw [if_pos (by rfl)]
              go_simp
              refine hK.out _ _ (hHeld.setIn (k := zg) (by simp) j _) (fun hHeld => ?_)
              clear hK K
              try simp only [Act.put, List.setIfInBounds_toArray, List.set_cons_zero, List.set_cons_succ]
              refine wpAnyH_done (by kernel_rfl) ?_ _
              go_wp2_with fail
              exact ⟨⟨j + 1, HIN.out, rfl, HSET.out _, (HST.out _).1, (HST.out _).2.1, (HST.out _).2.2.1, (HST.out _).2.2.2.1, (HST.out _).2.2.2.2⟩, HMs.out⟩
            exact AllReadyH.nil
          exact AllReadyH.nil
    · have hin : i < n := by omega
      have hI : (i : Int) < (n : Int) := by omega
      have e1 : IntKind.i64.wrap ((i : Int) + 1) = (i : Int) + 1 := by have := HM.out; rw [IntKind.wrap_i64]; omega
      have HIN : Hid (i < n) := hin
      have HMs : Hid ((((n : Int)) - intOf (.int .i64 ((i : Int) + 1))).toNat < (((n : Int)) - intOf (.int .i64 (i : Int))).toNat) := by show ((((n : Int)) - intOf (.int .i64 ((i : Int) + 1))).toNat < (((n : Int)) - intOf (.int .i64 (i : Int))).toNat); simp [intOf] <;> omega
      obtain ⟨g, zz, rfl, hg1, hg2, _, hic, cg, fg, hset⟩ := BP.at hin
      have HSET : Hid (∀ v : Int, BZ (wr.setCell ⟨g, i, none⟩ (.int .u8 v)) b3 (some ⟨g, 0, none⟩) n cp) := hset
      obtain ⟨ng1, ng2, ng3⟩ := HPP.out g rfl
      have HST : Hid (∀ v : Value, Hs (wr.setCell ⟨g, i, none⟩ v) hx fa n ∧ Hs (wr.setCell ⟨g, i, none⟩ v) hy fb m ∧ Chg w (wr.setCell ⟨g, i, none⟩ v) []) := fun v =>
        ⟨HX.chg ((Chg.refl wr [g]).setIn (k := g) (by simp) i v) (by simp; exact fun e => ng1 e.symm), HY.chg ((Chg.refl wr [g]).setIn (k := g) (by simp) i v) (by simp; exact fun e => ng2 e.symm), CC.setNew ng3 i v⟩
      clear BP HX HY CC hset hin h8 hi hg1 hg2 hic ng1 ng2 ng3
      go_wp2_with fail
      exact ⟨⟨i + 1, HIN.out, rfl, HSET.out _, (HST.out _).1, (HST.out _).2.1, (HST.out _).2.2⟩, HMs.out⟩
end Go.Proofs.YtjcgjhncdaplcabDoor
