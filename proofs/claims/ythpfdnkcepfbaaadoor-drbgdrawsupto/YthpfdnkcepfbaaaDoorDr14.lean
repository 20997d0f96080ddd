/- drbg.Expand. -/
import Derived.Test.YthpfdnkcepfbaaaDoorDr13
import Derived.Test.YthpfdnkcepfbaaaDoorDr12
set_option linter.unusedVariables false
set_option linter.unusedSimpArgs false
set_option linter.unnecessarySimpa false
namespace Go.Proofs.YthpfdnkcepfbaaaDoor
open Go.RowKit

/-- What Expand keeps while digests are asked for. -/
def XP (n : Nat) (kf : Nat → Nat) (m : Nat) (f : Nat → Nat) (pi : Option Addr) (ci a0 a1 a2 a3 : Nat) (ob i : Nat) (w : World) : Prop :=
  (a0 < ob ∧ a1 < ob ∧ a2 < ob ∧ a3 < ob) ∧ Gl w ∧ Blk w a0 #[.int .u8 ((i % 256 : Nat) : Int)] 5 ∧ Blk w a1 (yC 128 (kb n kf)) 103 ∧ Blk w a3 #[.slice pi m ci] 22 ∧ SeL [ob, a0, a2] w (.slice pi m ci) m f ∧
    ∃ pa ca, Blk w a2 #[.slice pa (xn i) ca] 22 ∧ SeL [ob, a0, a2] w (.slice pa (xn i) ca) (xn i) (xT n kf m f i)
theorem XP.chg {n : Nat} {kf : Nat → Nat} {m : Nat} {f : Nat → Nat} {pi : Option Addr} {ci a0 a1 a2 a3 ob i : Nat} {w w' : World} (hg : 2 ≤ a0) (h : XP n kf m f pi ci a0 a1 a2 a3 ob i w) (k : Chg w w' [ob]) : XP n kf m f pi ci a0 a1 a2 a3 ob i w' := by
  obtain ⟨⟨l0, l1, l2, l3⟩, G, b0, b1, b3, s, pa, ca, b2, sa⟩ := h
  have k' : Chg w w' [ob, a0, a2] := k.incl (by simp)
  exact ⟨⟨l0, l1, l2, l3⟩, G.chg k (by simp; omega) (by simp; omega), b0.chg k (by simp; omega), b1.chg k (by simp; omega), b3.chg k (by simp; omega), s.chg k', pa, ca, b2.chg k (by simp; omega), sa.chg k'⟩
set_option maxHeartbeats 4000000 in
set_option maxRecDepth 100000 in
theorem XP.next {n : Nat} {kf : Nat → Nat} {m : Nat} {f : Nat → Nat} {pi : Option Addr} {ci a0 a1 a2 a3 ob i : Nat} {w : World} (hg : 2 ≤ a0 ∧ 2 ≤ a2) (hne : ¬ a0 = a1 ∧ ¬ a0 = a2 ∧ ¬ a0 = a3 ∧ ¬ a2 = a1 ∧ ¬ a2 = a3) (hk : ∀ j, j < n → kf j < 256) (hm : m < 9223372036854775808) (lo : ob < w.heap.size) (h : XP n kf m f pi ci a0 a1 a2 a3 ob i w) :
    Calls Tryd.prog 40 #[.pointer (some ⟨a0, 0, none⟩), .pointer (some ⟨a1, 0, none⟩), .pointer (some ⟨a2, 0, none⟩), .pointer (some ⟨a3, 0, none⟩)] w fun e w' => e = .returned (.agg (yC 64 (xT n kf m f (i + 1)))) ∧ XP n kf m f pi ci a0 a1 a2 a3 ob (i + 1) w' ∧ Chg w w' [a0, a2] := by
  obtain ⟨⟨l0, l1, l2, l3⟩, G, b0, b1, b3, s, pa, ca, b2, sa⟩ := h
  have hD : mac 128 (kb n kf) (xn i + m + 1) (cat (cat (xT n kf m f i) (xn i) f) (xn i + m) (fun _ => (i + 1) % 256)) = xT n kf m f (i + 1) := mac_kb _ _ _ _
  refine (Expand1_s a0 a1 a2 a3 (kb n kf) (i % 256) ((i + 1) % 256) (by omega) pa (xn i) ca pi m ci (xT n kf m f i) f w G hg ⟨hne.1, hne.2.1, hne.2.2.1⟩ b0 b1 (fun j _ => kb_lt hk j) b2 b3 (sa.sub (by simp)) (s.sub (by simp)) (by unfold xn; split <;> omega) hm (by omega)).mono ?_
  rintro e w' ⟨dg, rfl, hdg, k, c0, c2, cd⟩
  rw [hD] at cd ⊢
  have k' : Chg w w' [ob, a0, a2] := k.incl (by simp)
  refine ⟨rfl, ⟨⟨l0, l1, l2, l3⟩, G.chg k (by simp; omega) (by simp; omega), c0, b1.chg k (by simp; omega), b3.chg k (by simp; omega), s.chg k', _, _, c2, ?_⟩, k⟩
  refine Or.inl ⟨cd.slT (fun j _ => xT_lt _ _ _ _ _ _) (by omega), fun g o a b e hx => ?_⟩
  simp only [Value.slice.injEq, Option.some.injEq, Addr.mk.injEq] at e
  have := b2.lt
  simp at hx
  omega
theorem zeroBy : (Tryd.prog.info? 22).bind (·.zero) = some (.slice none 0 0) := by kernel_rfl
theorem zeroU8 : (Tryd.prog.info? 5).bind (·.zero) = some (.int .u8 0) := by kernel_rfl
set_option maxHeartbeats 4000000 in
set_option maxRecDepth 100000 in
theorem Expand_no (kv iv : Value) (n r : Int) (hr : (n < 0 ∧ r = 1) ∨ (16320 < n ∧ r = 113)) (w : World) (hi : ∃ p l c, iv = .slice p l c) : Calls Tryd.prog 10 #[kv, iv, .int .i64 n] w fun e w' => e = .returned (.tuple #[.slice none 0 0, .int .i64 r]) ∧ Chg w w' [] := by
  obtain ⟨pi, li, ci, rfl⟩ := hi
  rcases hr with ⟨h, rfl⟩ | ⟨h, rfl⟩
  · go_enter Tryd.func10, Tryd.ntmps10
    go_wp2_with (refine box_w rfl 22 _ rfl #[.slice pi li ci] rfl ?_; intro g w1 hg B k1)
    go_ret2
    exact ⟨rfl, k1⟩
  · have h0 : ¬ n < 0 := by omega
    go_enter Tryd.func10, Tryd.ntmps10
    go_wp2_with (refine box_w rfl 22 _ rfl #[.slice pi li ci] rfl ?_; intro g w1 hg B k1)
    go_ret2
    exact ⟨rfl, k1⟩
set_option maxHeartbeats 8000000 in
set_option maxRecDepth 100000 in
theorem Expand_ok (kv : Value) (n : Nat) (kf : Nat → Nat) (iv : Value) (m : Nat) (f : Nat → Nat) (N : Nat) (w : World) (hG : Gl w) (hk : Se w kv n kf) (hi : Se w iv m f) (hN : N ≤ 16320) :
    Calls Tryd.prog 10 #[kv, iv, .int .i64 (N : Int)] w fun e w' => ∃ ob, e = .returned (.tuple #[.slice (some ⟨ob, 0, none⟩) N N, .int .i64 0]) ∧ w.heap.size ≤ ob ∧ Blk w' ob (yC N (xO n kf m f)) 5 ∧ Chg w w' [] := by
  have HK : Hid (Se w kv n kf ∧ n < 9223372036854775808 ∧ ∀ j, j < n → kf j < 256) := ⟨hk, hk.le, hk.bd⟩
  have HI : Hid (Se w iv m f ∧ m < 9223372036854775808) := ⟨hi, hi.le⟩
  have HG : Hid (Gl w) := hG
  have HGL : Hid (1 < w.heap.size) := hG.lt
  obtain ⟨pk, ck, rfl⟩ := hk.form
  obtain ⟨pi, ci, rfl⟩ := hi.form
  have hN0 : ¬ (N : Int) < 0 := by omega
  have hN1 : ¬ (16320 : Int) < (N : Int) := by omega
  have HN : Hid (N ≤ 16320) := hN
  clear hk hi hG hN
  have hmf : ∀ (fn : Fn) (first cap : Array Value) (w : World), (Instr.makeFunc fn first cap).run Tryd.prog w = .ok (.func fn first cap) w := fun _ _ _ _ => rfl
  go_enter Tryd.func10, Tryd.ntmps10
  go_wp2_with (refine box_w rfl 22 _ rfl #[.slice pi m ci] rfl ?_; intro a3 w1 h3 B3 k1)
  refine (padded_s _ n kf w1 (HG.out.chg k1 (by simp) (by simp)) (HK.out.1.chg k1) (by have := HK.out; omega)).mono ?_
  rintro e w2 ⟨rfl, k2⟩
  have B32 := B3.chg k2 (by simp)
  have C2 := k1.trans1 k2
  have HA3 : Hid (w.heap.size ≤ a3 ∧ a3 < w2.heap.size) := ⟨h3, B32.lt⟩
  obtain ⟨KB, hKB⟩ : ∃ z, kb n kf = z := ⟨_, rfl⟩
  rw [hKB]
  clear B3 k1 k2 h3
  go_upto_region 8 with (first
    | (have _h := BY; refine alloc_w rfl 5 rfl (.int .u8 0) zeroU8 #[.int .u8 0] rfl ?_; intro a0 w6 h0 B0 k6)
    | (have _h := BP4; refine alloc_w rfl 22 rfl (.slice none 0 0) zeroBy #[.slice none 0 0] rfl ?_; intro a2 w5 h2 BY k5)
    | (refine store_w BP rfl 103 _ _ (yC 128 KB) rfl rfl rfl (by rw [yC_size]; exact padInfo) (by rw [yC_size, yC_size]) (yC_one 128 _) ?_; intro w4 BP4 k4)
    | (with_reducible refine alloc_w rfl 103 rfl (.agg (yC 128 (fun _ => 0))) zeroPad (yC 128 (fun _ => 0)) rfl ?_; intro a1 w3 h1 BP k3))
  rw [← hKB] at BP4
  have k34 : Chg w2 w4 [] := k3.new k4 h1
  have C6 : Chg w2 w6 [] := (k34.trans1 k5).trans1 k6
  have C := C2.trans1 C6
  have HL : Hid (a3 < a1 ∧ a1 < a2 ∧ a2 < a0 ∧ a0 < w6.heap.size ∧ w.heap.size ≤ a3) := ⟨by have := HA3.out; omega, by have := BP4.lt; omega, by have := BY.lt; omega, B0.lt, HA3.out.1⟩
  have HB3 : Hid (Blk w6 a3 #[.slice pi m ci] 22) := B32.chg C6 (by simp)
  have HB1 : Hid (Blk w6 a1 (yC 128 (kb n kf)) 103) := (BP4.chg k5 (by simp)).chg k6 (by simp)
  have HB2 : Hid (Blk w6 a2 #[.slice none 0 0] 22) := BY.chg k6 (by simp)
  have HB0 : Hid (Blk w6 a0 #[.int .u8 0] 5) := B0
  have HGP : Hid (2 ≤ a0 ∧ 2 ≤ a2) := by have := HGL.out; have := HL.out; exact ⟨by omega, by omega⟩
  have HC : Hid (Chg w w6 []) := C
  have HS : Hid (SeL [a0, a2] w (.slice pi m ci) m f) := HI.out.1.sel (by intro i hi; have := HL.out; simp at hi; omega)
  clear k34 C6 C C2 k3 k4 k5 k6 BP BP4 BY B0 h0 h1 h2 B32 hKB
  go_wp2_with fail
  refine (joined_x a0 a1 a2 a3 N (by have := HN.out; omega) w6 (fun i => xT n kf m f (i + 1)) (fun i j => xT_lt _ _ _ _ _ _) [a0, a2] (fun b hb => by have := HL.out; simp at hb; omega) (XP n kf m f pi ci a0 a1 a2 a3)
    (fun ob w' ho k => ?_) (fun ob i w' _ ho hp => XP.next HGP.out (by have := HL.out; omega) HK.out.2.2 HI.out.2 ho hp) (fun ob i a b l hp k hl => XP.chg HGP.out.1 hp ((Chg.refl a [ob]).trans k (fun i hi => (hl i hi).imp (fun h => by simp [h]) id)))).mono ?_
  · have hL := HL.out
    refine ⟨⟨by omega, by omega, by omega, by omega⟩, (HG.out.chg HC.out (by simp) (by simp)).chg k (by simp) (by simp), HB0.out.chg k (by simp), HB1.out.chg k (by simp), HB3.out.chg k (by simp), ?_, none, 0, HB2.out.chg k (by simp), Or.inl ⟨Or.inl ⟨rfl, rfl⟩, fun g o a b e hx => by simp at e⟩⟩
    have s1 : SeL [ob, a0, a2] w (.slice pi m ci) m f := HI.out.1.sel (by intro i hi; have := HC.out.size; simp at hi; omega)
    exact (s1.chg (HC.out.wide)).chg k.wide
  rintro e w7 ⟨ob, rfl, hob, BO, _, k7⟩
  have HOB : Hid (w.heap.size ≤ ob) := Nat.le_trans HC.out.size hob
  have HCE : Hid (Chg w w7 []) := HC.out.trans k7 (by intro i hi; have := HL.out; simp at hi; right; omega)
  clear k7 hob
  go_wp2_with fail
  go_ret2
  exact ⟨ob, rfl, HOB.out, BO, HCE.out⟩
end Go.Proofs.YthpfdnkcepfbaaaDoor
