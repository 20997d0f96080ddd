/- rimelaw10.used; what is used of two messages is compared; an encoded frame that is cut. -/
import Derived.Test.YtgfeopingompdaaGreatDoorW54
import Derived.Test.YtgfeopingompdaaGreatDoorW55
import Derived.Test.YtgfeopingompdaaGreatDoorW50
import Derived.Test.YtgfeopingompdaaGreatDoorMwF
set_option linter.unusedVariables false
set_option linter.unusedSimpArgs false
set_option linter.unnecessarySimpa false
namespace Go.Proofs.YtgfeopingompdaaGreatDoor
open Go.RowKit

/-- A value that is what the kind uses of a message; its list and text are new from a block on. -/
def UsV (m : Ms) (N : Nat) (d : Nat → Int) (h b : Nat → Nat → Nat) (M : Nat) (ft : Nat → Nat) (base : Nat) (w : World) (v : Value) : Prop :=
  ∃ vl vt, v = .agg (msC { usM m with list := vl, text := vt }) ∧ OwnR w base 27 65 vl (uK m N) (cF d h b) ∧ (∀ j, j < uK m N → ∀ i, i < 32 → h j i < 256 ∧ b j i < 256) ∧ Own w base vt (uK m M) ft
theorem UsV.far {m : Ms} {N : Nat} {d : Nat → Int} {h b : Nat → Nat → Nat} {M : Nat} {ft : Nat → Nat} {base base' : Nat} {w w' : World} {v : Value} {l : List Nat} (q : UsV m N d h b M ft base w v) (hc : Chg w w' l) (hl : ∀ y, y ∈ l → y < base) (hb : base' ≤ base) : UsV m N d h b M ft base' w' v := by
  obtain ⟨vl, vt, h1, h2, h3, h4⟩ := q
  exact ⟨vl, vt, h1, ⟨ownsRow_base (h2.far hc hl).1 hb, (h2.far hc hl).2⟩, h3, ⟨ownsRow_base (h4.far hc hl).1 hb, (h4.far hc hl).2⟩⟩
theorem us_nil (m : Ms) : { usM m with list := .slice none 0 0, text := .slice none 0 0 } = usM m := by
  unfold usM
  repeat' split
  all_goals rfl
theorem UsQ.v {m : Ms} {N : Nat} {d : Nat → Int} {h b : Nat → Nat → Nat} {M : Nat} {ft : Nat → Nat} {w w' : World} {e : Ending} (q : UsQ m N d h b M ft w e w') : ∃ v, e = .returned v ∧ UsV m N d h b M ft w.heap.size w' v ∧ Chg w w' [] := by
  obtain ⟨⟨k, rfl⟩ | ⟨k, vl, vt, rfl, h1, h2, h3⟩, hc⟩ := q
  · refine ⟨_, rfl, ⟨.slice none 0 0, .slice none 0 0, by rw [us_nil], ?_, ?_, ?_⟩, hc⟩
    · rw [show uK m N = 0 from if_neg k]
      exact OwnR.nil _ _ _ _ _
    · rw [show uK m N = 0 from if_neg k]
      intro j hj
      omega
    · rw [show uK m M = 0 from if_neg k]
      exact Own.nil _ _ _
  · refine ⟨_, rfl, ⟨vl, vt, by rw [us_3 k], ?_, ?_, ?_⟩, hc⟩
    · rw [show uK m N = N from if_pos k]; exact h1
    · rw [show uK m N = N from if_pos k]; exact h2
    · rw [show uK m M = M from if_pos k]; exact h3
theorem UsV.one {m : Ms} {N : Nat} {d : Nat → Int} {h b : Nat → Nat → Nat} {M : Nat} {ft : Nat → Nat} {base : Nat} {w : World} {v : Value} (q : UsV m N d h b M ft base w v) : ∃ m1 : Ms, v = .agg (msC m1) ∧ m1.list.oneCell' = true ∧ m1.text.oneCell' = true := by
  obtain ⟨vl, vt, h1, h2, _, h3⟩ := q
  obtain ⟨p, c, rfl⟩ := h2.lenL
  obtain ⟨p', c', rfl⟩ := slFm h3.sl
  exact ⟨_, h1, rfl, rfl⟩
theorem Used_u (m : Ms) (N : Nat) (d : Nat → Int) (h b : Nat → Nat → Nat) (M : Nat) (ft : Nat → Nat) (hg : EnG m N d M) (w : World) (hL : Cl w m.list N d h b) (hT : Sl w m.text M ft) :
    Calls Tryz.prog 74 #[.agg (msC m)] w fun e w' => ∃ v, e = .returned v ∧ UsV m N d h b M ft w.heap.size w' v ∧ Chg w w' [] := by
  have hk := hg.1
  unfold okKind at hk
  obtain k | k | k | k | k | k : m.kind = 1 ∨ m.kind = 2 ∨ m.kind = 3 ∨ m.kind = 4 ∨ m.kind = 5 ∨ m.kind = 6 := by omega
  · exact (Used_1 m N d h b M ft k hg w hL hT).mono fun e w' q => q.v
  · exact (Used_2 m N d h b M ft k hg w hL hT).mono fun e w' q => q.v
  · exact (Used_3 m N d h b M ft k hg w hL hT).mono fun e w' q => q.v
  · exact (Used_4 m N d h b M ft k hg w hL hT).mono fun e w' q => q.v
  · exact (Used_5 m N d h b M ft k hg w hL hT).mono fun e w' q => q.v
  · exact (Used_6 m N d h b M ft k hg w hL hT).mono fun e w' q => q.v
set_option maxHeartbeats 8000000 in
set_option maxRecDepth 100000 in
theorem used_u (m : Ms) (N : Nat) (d : Nat → Int) (h b : Nat → Nat → Nat) (M : Nat) (ft : Nat → Nat) (hg : EnG m N d M) (w : World) (hL : Cl w m.list N d h b) (hT : Sl w m.text M ft) :
    Calls Tryz.prog 29 #[.agg (msC m)] w fun e w' => ∃ v, e = .returned v ∧ UsV m N d h b M ft w.heap.size w' v ∧ Chg w w' [] := by
  have HU : Hid (∀ W, Chg w W [] → Calls Tryz.prog 74 #[.agg (msC m)] W fun e w' => ∃ v, e = .returned v ∧ UsV m N d h b M ft W.heap.size w' v ∧ Chg W w' []) := fun W k => Used_u m N d h b M ft hg W (hL.chg k) (hT.chg k (by simp [Off]))
  clear hL hT hg
  go_enter Tryz.func29, Tryz.ntmps29
  obtain ⟨C, hC⟩ : ∃ C, msC m = C := ⟨_, rfl⟩
  rw [hC]
  go_upto_region 1 with (first
    | (with_reducible refine alloc_w rfl 35 rfl (.agg (msC (ms0 0))) zeroMsg (msC (ms0 0)) rfl ?_; intro rb w2 hrb BR k2)
    | (refine box_w rfl 35 _ rfl C rfl ?_; intro mb w1 hmb BM k1))
  have BM2 := BM.chg k2 (by simp)
  have K2 := k1.trans1 k2
  rw [← hC] at BM2
  have HRB : Hid (w.heap.size ≤ rb) := by have := k1.size; show w.heap.size ≤ rb; omega
  clear BM k1 k2 hmb hrb hC
  go_wp2_with (refine wpList_load_row rfl 35 _ rfl mb rfl 35 _ (0, 0) _ BM2 Tryz.underlying35 rfl (by rw [msC_size]; exact msInfoW) ?_)
  refine (HU.out w2 K2).mono ?_
  rintro e w3 ⟨v, rfl, hv, k3⟩
  obtain ⟨m1, rfl, o1, o2⟩ := hv.one
  have HV : Hid (UsV m N d h b M ft w2.heap.size w3 (.agg (msC m1))) := hv
  have HO : Hid (m1.list.oneCell' = true ∧ m1.text.oneCell' = true) := ⟨o1, o2⟩
  have BR3 := BR.chg k3 (by simp)
  have K3 := K2.trans1 k3
  have HLT : Hid (rb < w2.heap.size ∧ w.heap.size ≤ w2.heap.size) := ⟨BR.lt, K2.size⟩
  clear hv o1 o2 BR BM2 K2 k3
  go_wp2_with (refine store_w BR3 rfl 35 _ _ (msC m1) rfl rfl rfl (by rw [msC_size]; exact msInfoW) (by rw [msC_size, msC_size]) (ms_oneC _ HO.out.1 HO.out.2) ?_; intro wz BRz kz)
  exact bodyPost_ret (results_cell_row Tryz.results29 _ _ rb 35 (msC m1) (0, 0) _ rfl BRz Tryz.underlying35 rfl (by rw [msC_size]; exact msInfoW)) rfl ⟨_, rfl, HV.out.far kz (fun y hy => by simp at hy; subst hy; exact HLT.out.1) HLT.out.2, K3.new kz HRB.out⟩
/-- What is used of two messages is compared. -/
theorem Same_us (m : Ms) (N : Nat) (d : Nat → Int) (h b : Nat → Nat → Nat) (M : Nat) (ft : Nat → Nat) (m' : Ms) (N' : Nat) (d' : Nat → Int) (h' b' : Nat → Nat → Nat) (M' : Nat) (ft' : Nat → Nat) (v v' : Value) (w : World) (base base' : Nat) (q : UsV m N d h b M ft base w v) (q' : UsV m' N' d' h' b' M' ft' base' w v') :
    Calls Tryz.prog 20 #[v, v'] w fun e w' => e = .returned (.bool (eqM (usM m) (uK m N) d h b (uK m M) ft (usM m') (uK m' N') d' h' b' (uK m' M') ft')) ∧ Chg w w' [] := by
  obtain ⟨vl, vt, rfl, h2, h3, h4⟩ := q
  obtain ⟨vl', vt', rfl, h2', h3', h4'⟩ := q'
  exact SameMsg_w { usM m with list := vl, text := vt } (uK m N) d h b (uK m M) ft { usM m' with list := vl', text := vt' } (uK m' N') d' h' b' (uK m' M') ft' w ⟨h2.rl, h3⟩ h4.sl.zb ⟨h2'.rl, h3'⟩ h4'.sl.zb
theorem cut_FrP (k n : Nat) (F : Nat → Nat) (hk : 1 ≤ k ∧ k ≤ 6) (hn : n ≤ 1065189) (z : Nat) (hz : z < 14 + n) (s : ByteArray) (a y : Nat) (h : FrP z (frB k n F) s a y) : s = sFrame ∧ a = z ∧ y = 3 := by
  have hd : ∀ N, 10 ≤ N → HdG N (frB k n F) := fun N hN => frB_HdG k n N F hk hn hN
  have hm := frB_len k n F (by omega)
  obtain ⟨g1, g2, g3, _, g5⟩ := hd 10 (by omega)
  rcases h with h | ⟨_, h⟩
  · rcases h with ⟨i, hi, _, ⟨_, rfl, rfl, rfl⟩ | ⟨_, q, _⟩⟩ | ⟨_, ⟨_, rfl, rfl, rfl⟩ | ⟨_, q, _⟩ | ⟨_, ⟨_, rfl, rfl, rfl⟩ | ⟨_, q, _⟩ | ⟨_, ⟨_, _, rfl, rfl, rfl⟩ | ⟨_, q, _⟩⟩⟩⟩
    · exact ⟨rfl, rfl, rfl⟩
    · exact absurd (g1 i hi) q
    · exact ⟨rfl, rfl, rfl⟩
    · exact absurd g2 q
    · exact ⟨rfl, rfl, rfl⟩
    · exact absurd g3 q
    · exact ⟨rfl, rfl, rfl⟩
    · omega
  · rw [hm] at h
    rcases h with ⟨_, rfl, rfl, rfl⟩ | ⟨q, _⟩ | ⟨q, _⟩
    · exact ⟨rfl, rfl, rfl⟩
    · omega
    · omega
theorem Decode_cut (g o c : Nat) (k n : Nat) (F : Nat → Nat) (hk : 1 ≤ k ∧ k ≤ 6) (hn : n ≤ 1065189) (z : Nat) (hz : z < 14 + n) (hc : 14 + n ≤ c) (hc2 : c ≤ 9223372036854775807) (w : World) (hG : Gl w) (hB : Bs w g o (14 + n) (frB k n F)) :
    Calls Tryz.prog 16 #[.slice (some ⟨g, o, none⟩) z c] w fun e w' => ∃ fv, e = .returned (.tuple #[.agg (msC (ms0 0)), fv]) ∧ Ft w' w.heap.size fv sFrame (z : Int) ((3 : Nat) : Int) ∧ Chg w w' [] := by
  refine (Decode_s g o z c _ (by omega) hc2 w hG (hB.lo (by omega))).mono ?_
  rintro e w' ⟨⟨s, a, y, h1, fv, h2, h3⟩ | ⟨B, M', _, _, h2⟩, kk⟩
  · obtain ⟨rfl, rfl, rfl⟩ := cut_FrP k n F hk hn z hz s a y h1
    exact ⟨fv, h2, h3, kk⟩
  · exfalso
    have q := h2.2.1
    rw [frB_len k n F (by omega)] at q
    omega
end Go.Proofs.YtgfeopingompdaaGreatDoor
