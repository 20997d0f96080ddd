/- wire: the body of a package is read, or its first fault. -/
import Derived.Test.YtgjclegpnbjlkaaGreatDoorW37
set_option linter.unusedVariables false
set_option linter.unusedSimpArgs false
set_option linter.unnecessarySimpa false
namespace Go.Proofs.YtgjclegpnbjlkaaGreatDoor
open Go.RowKit

theorem ms_set_list (m : Ms) (v : Value) : (msC m).setIfInBounds 100 v = msC { m with list := v } := by kernel_rfl
theorem ms_set_text (m : Ms) (v : Value) : (msC m).setIfInBounds 101 v = msC { m with text := v } := by kernel_rfl
theorem slFm {w : World} {v : Value} {n : Nat} {f : Nat → Nat} (h : Sl w v n f) : ∃ p c, v = .slice p n c := by
  rcases h with ⟨rfl, rfl⟩ | ⟨g, o, c, rfl, _⟩
  · exact ⟨_, _, rfl⟩
  · exact ⟨_, _, rfl⟩
theorem OwnR.lenL {w : World} {base : Nat} {T : TypeId} {s : Nat} {v : Value} {n : Nat} {F : Nat → List Value} (h : OwnR w base T s v n F) : ∃ p c, v = .slice p n c := by
  rcases h.1.2 with ⟨e, h0⟩ | ⟨g, cap, cur, e, _⟩
  · obtain rfl : n = 0 := h0
    exact ⟨_, _, e⟩
  · exact ⟨_, _, e⟩
theorem OwnR.far {w w' : World} {base : Nat} {T : TypeId} {v : Value} {n : Nat} {F : Nat → List Value} {l : List Nat} (h : OwnR w base T 65 v n F) (hc : Chg w w' l) (hl : ∀ y, y ∈ l → y < base) : OwnR w' base T 65 v n F :=
  h.chg hc (fun y hy hm => by have := (h.1.lt y (by unfold ob at hy; simpa using hy)).1; have := hl y hm; omega)
theorem Own.far {w w' : World} {base : Nat} {v : Value} {n : Nat} {f : Nat → Nat} {l : List Nat} (h : Own w base v n f) (hc : Chg w w' l) (hl : ∀ y, y ∈ l → y < base) : Own w' base v n f :=
  h.chg hc (fun y hy hm => by have := (h.ob_ge y hy).1; have := hl y hm; omega)
def TxQ (w : World) (r : Nat) (V : Value) (n a : Nat) (F : Nat → Nat) (e : Ending) (w' : World) : Prop :=
  (a + 4 + nm F a 4 ≤ n ∧ nm F a 4 ≤ 1048575 ∧ ∃ v, e = .returned v ∧ Own w' w.heap.size v (nm F a 4) (fun j => F (a + 4 + j)) ∧ Rd w' r V ((a + 4 + nm F a 4 : Nat) : Int) sText (a : Int) ∧ Chg w w' [r]) ∨
  (∃ y : Nat, ((n < a + 4 ∧ y = 3) ∨ (a + 4 ≤ n ∧ 1048575 < nm F a 4 ∧ y = 10) ∨ (a + 4 ≤ n ∧ nm F a 4 ≤ 1048575 ∧ n < a + 4 + nm F a 4 ∧ y = 3)) ∧ Gu w.heap.size sText (a : Int) ((y : Nat) : Int) e w' ∧ Chg w w' [r])
theorem text_s (r n c g o a : Nat) (F : Nat → Nat) (b : Int) (s : ByteArray) (ha : a ≤ n) (hn : n < c) (hn2 : c ≤ 9223372036854775807) (w : World) (h : Rd w r (.slice (some ⟨g, o, none⟩) n c) (a : Int) s b) (hB : Bs w g o n F) (hgr : ¬ g = r) :
    Calls Tryz.prog 103 #[.pointer (some ⟨r, 0, none⟩)] w fun e w' => TxQ w r (.slice (some ⟨g, o, none⟩) n c) n a F e w' := by
  by_cases h4 : n < a + 4
  · exact (text_gu4 r n c a _ b s h4 ha (by omega) w h).mono fun e w' q => Or.inr ⟨3, Or.inl ⟨h4, rfl⟩, q⟩
  · by_cases hL : nm F a 4 ≤ 1048575
    · by_cases hk : a + 4 + nm F a 4 ≤ n
      · exact (text_ok r n c g o a _ F b s ⟨rfl, hL⟩ hk hn hn2 w h hB hgr).mono fun e w' q => Or.inl ⟨hk, hL, q⟩
      · exact (text_gu r n c g o a _ F b s ⟨rfl, hL⟩ (by omega) (by omega) hn hn2 w h hB hgr).mono fun e w' q => Or.inr ⟨3, Or.inr (Or.inr ⟨by omega, hL, by omega, rfl⟩), q⟩
    · exact (text_long r n c g o a _ F b s ⟨rfl, by omega⟩ (by omega) hn hn2 w h hB hgr).mono fun e w' q => Or.inr ⟨10, Or.inr (Or.inl ⟨by omega, by omega, rfl⟩), q⟩
/-- The first fault of a package's body. -/
def Bd3 (n : Nat) (F : Nat → Nat) (s : ByteArray) (a y : Nat) : Prop :=
  (n < 42 ∧ s = sSess ∧ a = 10 ∧ y = 3) ∨ (42 ≤ n ∧ n < 43 ∧ s = sFrm ∧ a = 42 ∧ y = 3) ∨ (43 ≤ n ∧ n < 44 ∧ s = sToo ∧ a = 43 ∧ y = 3) ∨ (44 ≤ n ∧ n < 45 ∧ s = sList ∧ a = 44 ∧ y = 3) ∨
  (45 ≤ n ∧ ∃ j, j < F 44 ∧ (∀ i, i < j → prW n (45 + 65 * i) (F (45 + 65 * i)) = 0) ∧ prW n (45 + 65 * j) (F (45 + 65 * j)) ≠ 0 ∧ s = sList ∧ a = 45 + 65 * j ∧ y = prW n (45 + 65 * j) (F (45 + 65 * j))) ∨
  (45 ≤ n ∧ (∀ i, i < F 44 → prW n (45 + 65 * i) (F (45 + 65 * i)) = 0) ∧
    ((s = sText ∧ a = 45 + 65 * F 44 ∧ ((n < a + 4 ∧ y = 3) ∨ (a + 4 ≤ n ∧ 1048575 < nm F a 4 ∧ y = 10) ∨ (a + 4 ≤ n ∧ nm F a 4 ≤ 1048575 ∧ n < a + 4 + nm F a 4 ∧ y = 3))) ∨
     (nm F (45 + 65 * F 44) 4 ≤ 1048575 ∧ 45 + 65 * F 44 + 4 + nm F (45 + 65 * F 44) 4 < n ∧ s = sTail ∧ a = 45 + 65 * F 44 + 4 + nm F (45 + 65 * F 44) 4 ∧ y = 104)))
def Mg3 (w : World) (r n : Nat) (F : Nat → Nat) (e : Ending) (w' : World) : Prop :=
  ((∃ s a y, Bd3 n F s a y ∧ Gu w.heap.size s ((a : Nat) : Int) ((y : Nat) : Int) e w') ∨
   (((45 ≤ n ∧ ∀ i, i < F 44 → prW n (45 + 65 * i) (F (45 + 65 * i)) = 0) ∧ nm F (45 + 65 * F 44) 4 ≤ 1048575 ∧ n = 45 + 65 * F 44 + 4 + nm F (45 + 65 * F 44) 4) ∧
    ∃ vl vt B, e = .returned (.agg (msC { rd0 F 3 with list := vl, text := vt })) ∧ w.heap.size ≤ B ∧ OwnR w' B 27 65 vl (F 44) (lsF F 45) ∧ Own w' B vt (nm F (45 + 65 * F 44) 4) (fun j => F (45 + 65 * F 44 + 4 + j)))) ∧ Chg w w' [r]
set_option maxHeartbeats 16000000 in
set_option maxRecDepth 100000 in
theorem message_k3 (r n c g o : Nat) (F : Nat → Nat) (b : Int) (s : ByteArray) (h10 : 10 ≤ n) (hn : n < c) (hn2 : c ≤ 9223372036854775807) (w : World) (h : Rd w r (.slice (some ⟨g, o, none⟩) n c) ((10 : Nat) : Int) s b) (hB : Bs w g o n F) (hgr : ¬ g = r) :
    Calls Tryz.prog 86 #[.pointer (some ⟨r, 0, none⟩), .int .i64 3] w fun e w' => Mg3 w r n F e w' := by
  have HB : Hid (Bs w g o n F) := hB
  have HG : Hid (¬ g = r) := hgr
  have HL : Hid (r < w.heap.size) := Blk.lt h
  have HR : Hid (Rd w r (.slice (some ⟨g, o, none⟩) n c) ((10 : Nat) : Int) s b) := h
  have HN : Hid (10 ≤ n ∧ n < c ∧ c ≤ 9223372036854775807) := ⟨h10, hn, hn2⟩
  have HW : Hid (∀ w' a b s s', a ≤ n → Rd w' r (.slice (some ⟨g, o, none⟩) n c) ((a : Nat) : Int) s b → Bs w' g o n F → Calls Tryz.prog 99 #[.pointer (some ⟨r, 0, none⟩), .string s'] w' fun e w'' => FdQ w' r (.slice (some ⟨g, o, none⟩) n c) n a 32 (.agg (yC 32 (fun j => F (a + j)))) s' e w'') := fun w' a b s s' ha h1 h2 => rword_s r n c g o a F b s s' ha hn hn2 w' h1 h2 hgr
  have HPt : Hid (∀ w' a b s s', a ≤ n → Rd w' r (.slice (some ⟨g, o, none⟩) n c) ((a : Nat) : Int) s b → Bs w' g o n F → Calls Tryz.prog 100 #[.pointer (some ⟨r, 0, none⟩), .string s'] w' fun e w'' => FdQ w' r (.slice (some ⟨g, o, none⟩) n c) n a 1 (.int .i64 ((F a : Nat) : Int)) s' e w'') := fun w' a b s s' ha h1 h2 => party_s r n c g o a F b s s' ha hn hn2 w' h1 h2 hgr
  have HPr : Hid (∀ w' a b s s', a ≤ n → Rd w' r (.slice (some ⟨g, o, none⟩) n c) ((a : Nat) : Int) s b → Bs w' g o n F → Calls Tryz.prog 101 #[.pointer (some ⟨r, 0, none⟩), .string s'] w' fun e w'' => PrQ w' r (.slice (some ⟨g, o, none⟩) n c) n a F s' e w'') := fun w' a b s s' ha h1 h2 => pair_s r n c g o a F b s s' ha hn hn2 w' h1 h2 hgr
  have HCd : Hid (∀ w' a b s, a ≤ n → Rd w' r (.slice (some ⟨g, o, none⟩) n c) ((a : Nat) : Int) s b → Bs w' g o n F → Calls Tryz.prog 104 #[.pointer (some ⟨r, 0, none⟩)] w' fun e w'' => CdQ w' r (.slice (some ⟨g, o, none⟩) n c) n a F e w'') := fun w' a b s ha h1 h2 => code_s r n c g o a F b s ha hn hn2 w' h1 h2 hgr
  have HSg : Hid (∀ w' a b s, a ≤ n → Rd w' r (.slice (some ⟨g, o, none⟩) n c) ((a : Nat) : Int) s b → Bs w' g o n F → Calls Tryz.prog 105 #[.pointer (some ⟨r, 0, none⟩)] w' fun e w'' => FdQ w' r (.slice (some ⟨g, o, none⟩) n c) n a 64 (.agg (yC 64 (fun j => F (a + j)))) sSig e w'') := fun w' a b s ha h1 h2 => sig_s r n c g o a F b s ha hn hn2 w' h1 h2 hgr
  have HLs : Hid (∀ w' a b s, a ≤ n → Rd w' r (.slice (some ⟨g, o, none⟩) n c) ((a : Nat) : Int) s b → Bs w' g o n F → Calls Tryz.prog 102 #[.pointer (some ⟨r, 0, none⟩)] w' fun e w'' => LsQ w' r (.slice (some ⟨g, o, none⟩) n c) n a F e w'') := fun w' a b s ha h1 h2 => list_s r n c g o a F b s ha hn hn2 w' h1 h2 hgr
  have HTx : Hid (∀ w' a b s, a ≤ n → Rd w' r (.slice (some ⟨g, o, none⟩) n c) ((a : Nat) : Int) s b → Bs w' g o n F → Calls Tryz.prog 103 #[.pointer (some ⟨r, 0, none⟩)] w' fun e w'' => TxQ w' r (.slice (some ⟨g, o, none⟩) n c) n a F e w'') := fun w' a b s ha h1 h2 => text_s r n c g o a F b s ha hn hn2 w' h1 h2 hgr
  clear h10 hn hn2 h hB hgr
  go_enter Tryz.func86, Tryz.ntmps86
  go_wp2_with (first
    | (refine store_w BM rfl 35 _ _ (msC (ms0 3)) rfl rfl rfl (by rw [msC_size]; exact msInfoW) (by rw [msC_size, msC_size]) (ms_oneC _ rfl rfl) ?_; intro w3 BM3 k3)
    | (have _h := BA; with_reducible refine alloc_w rfl 35 rfl (.agg (msC (ms0 0))) zeroMsg (msC (ms0 0)) rfl ?_; intro mb w2 hmb BM k2)
    | (with_reducible refine alloc_w rfl 35 rfl (.agg (msC (ms0 0))) zeroMsg (msC (ms0 0)) rfl ?_; intro ab w1 hab BA k1)
    | (with_reducible refine wpList_buildW ?_ 35 _ ?_ (msC (ms0 3)) ?_ ?_
       · rfl
       · rfl
       · exact builtMsg 3
       skip))
  have HS : Hid (r < ab ∧ r < mb ∧ ab < mb ∧ w.heap.size ≤ ab ∧ w.heap.size ≤ mb) := by have := HL.out; have := BA.lt; have := k1.size; exact ⟨by omega, by omega, by omega, by omega, by omega⟩
  have BA3 := (BA.chg k2 (by simp)).chg k3 (by have := HS.out; simp; omega)
  have CC : Chg w w3 [r] := (((k1.trans1 k2).wide (l := [r])).trans k3 (fun i hi => by simp at hi; subst hi; exact Or.inr HS.out.2.2.2.2))
  have R := ((HR.out.chg k1 (by simp)).chg k2 (by simp)).chg k3 (by have := HS.out; simp; omega)
  clear BA BM k1 k2 k3 hab hmb
  have BM := BM3
  have BA := BA3
  clear BM3 BA3
  have a10 : 10 ≤ n := HN.out.1
  refine (HW.out w3 10 _ _ sSess a10 R (HB.out.chg CC (by simp; exact HG.out))).mono ?_
  rintro e w4 (⟨a42, rfl, Rn, k⟩ | ⟨hx, ⟨vf, rfl, hf⟩, k⟩)
  rotate_left
  · exact ⟨rfl, Or.inl ⟨sSess, 10, 3, Or.inl ⟨by omega, rfl, rfl, rfl⟩, vf, rfl, hf.lw CC.size⟩, CC.trans1 k⟩
  skip
  replace R := Rn
  clear Rn
  replace BM := BM.chg k (by have := HS.out; simp; omega)
  replace BA := BA.chg k (by have := HS.out; simp; omega)
  replace CC := CC.trans1 k
  clear k
  obtain ⟨U, hU⟩ : ∃ U, (fun j => F (10 + j)) = U := ⟨_, rfl⟩
  have HU : Hid ((fun j => F (10 + j)) = U) := hU
  rw [hU]
  clear hU
  have BMo := BM
  go_wp2_with (first
    | (with_reducible refine store_row ?_ 24 (.tmp 10) (.tmp 9) ?_ mb 1 (ms0 3) ({ (ms0 3 : Ms) with ses := U }) (yL 32 U) ?_ ?_ BMo ?_ ?_ ?_ ?_ ?_
       · rfl
       · rfl
       · rfl
       · rfl
       · simp [yL]
       · rw [yL_len]; exact hashInfoW
       · exact yL_1 _ _
       · exact ms_set_ses _ _
       intro w5 BMn k))
  replace BM := BMn
  clear BMo BMn
  replace BA := BA.chg k (by have := HS.out; simp; omega)
  replace R := R.chg k (by have := HS.out; simp; omega)
  replace CC := CC.trans k (fun i hi => by simp at hi; subst hi; exact Or.inr HS.out.2.2.2.2)
  clear k
  refine (HPt.out w5 42 _ _ sFrm (by omega) R (HB.out.chg CC (by simp; exact HG.out))).mono ?_
  rintro e w6 (⟨a43, rfl, Rn, k⟩ | ⟨hx, ⟨vf, rfl, hf⟩, k⟩)
  rotate_left
  · exact ⟨rfl, Or.inl ⟨sFrm, 42, 3, Or.inr (Or.inl ⟨by omega, by omega, rfl, rfl, rfl⟩), vf, rfl, hf.lw CC.size⟩, CC.trans1 k⟩
  skip
  replace R := Rn
  clear Rn
  replace BM := BM.chg k (by have := HS.out; simp; omega)
  replace BA := BA.chg k (by have := HS.out; simp; omega)
  replace CC := CC.trans1 k
  clear k
  obtain ⟨x1, hx1⟩ : ∃ x, ((F 42 : Nat) : Int) = x := ⟨_, rfl⟩
  have HX1 : Hid (((F 42 : Nat) : Int) = x1) := hx1
  rw [hx1]
  clear hx1
  have ff := BM.frozen 33
  have cf := ms_at BM 33 _ (ms_fr _)
  replace BM := (BM.setCell 33 (.int .i64 x1)).to (ms_set_fr _ x1)
  replace BA := BA.setOther (show ab ≠ mb by have := HS.out; omega) 33 (.int .i64 x1)
  have k : Chg w6 (w6.setCell ⟨mb, 33, none⟩ (.int .i64 x1)) [mb] := (Chg.refl w6 [mb]).setIn (by simp) 33 _
  replace R := R.chg k (by have := HS.out; simp; omega)
  replace CC := CC.trans k (fun i hi => by simp at hi; subst hi; exact Or.inr HS.out.2.2.2.2)
  clear k
  go_wp2_with fail
  generalize (w6.setCell ⟨mb, 33, none⟩ (.int .i64 x1)) = w7 at *
  clear ff cf
  refine (HPt.out w7 43 _ _ sToo (by omega) R (HB.out.chg CC (by simp; exact HG.out))).mono ?_
  rintro e w8 (⟨a44, rfl, Rn, k⟩ | ⟨hx, ⟨vf, rfl, hf⟩, k⟩)
  rotate_left
  · exact ⟨rfl, Or.inl ⟨sToo, 43, 3, Or.inr (Or.inr (Or.inl ⟨by omega, by omega, rfl, rfl, rfl⟩)), vf, rfl, hf.lw CC.size⟩, CC.trans1 k⟩
  skip
  replace R := Rn
  clear Rn
  replace BM := BM.chg k (by have := HS.out; simp; omega)
  replace BA := BA.chg k (by have := HS.out; simp; omega)
  replace CC := CC.trans1 k
  clear k
  obtain ⟨x2, hx2⟩ : ∃ x, ((F 43 : Nat) : Int) = x := ⟨_, rfl⟩
  have HX2 : Hid (((F 43 : Nat) : Int) = x2) := hx2
  rw [hx2]
  clear hx2
  have ff := BM.frozen 34
  have cf := ms_at BM 34 _ (ms_to _)
  replace BM := (BM.setCell 34 (.int .i64 x2)).to (ms_set_to _ x2)
  replace BA := BA.setOther (show ab ≠ mb by have := HS.out; omega) 34 (.int .i64 x2)
  have k : Chg w8 (w8.setCell ⟨mb, 34, none⟩ (.int .i64 x2)) [mb] := (Chg.refl w8 [mb]).setIn (by simp) 34 _
  replace R := R.chg k (by have := HS.out; simp; omega)
  replace CC := CC.trans k (fun i hi => by simp at hi; subst hi; exact Or.inr HS.out.2.2.2.2)
  clear k
  go_wp2_with fail
  generalize (w8.setCell ⟨mb, 34, none⟩ (.int .i64 x2)) = w9 at *
  clear ff cf
  have HBS : Hid (mb < w9.heap.size ∧ ab < w9.heap.size ∧ r < w9.heap.size ∧ w.heap.size ≤ w9.heap.size) := ⟨BM.lt, BA.lt, Blk.lt R, CC.size⟩
  have KW : Chg w9 w9 [] := Chg.refl _ _
  refine (HLs.out w9 44 _ _ (by omega) R (HB.out.chg CC (by simp; exact HG.out))).mono ?_
  rintro e v1 (⟨hq, ⟨vf, rfl, hf⟩, k⟩ | ⟨a45, (⟨hok, vl, bl, rfl, OL, Rn, k⟩ | ⟨j, hj, hji, hjj, ⟨vf, rfl, hf⟩, k⟩)⟩)
  · exact ⟨rfl, Or.inl ⟨sList, 44, 3, Or.inr (Or.inr (Or.inr (Or.inl ⟨by omega, by omega, rfl, rfl, rfl⟩))), vf, rfl, hf.lw CC.size⟩, CC.trans1 k⟩
  rotate_left
  · exact ⟨rfl, Or.inl ⟨sList, 45 + 65 * j, _, Or.inr (Or.inr (Or.inr (Or.inr (Or.inl ⟨by omega, j, hj, hji, hjj, rfl, rfl, rfl⟩)))), vf, rfl, hf.lw CC.size⟩, CC.trans1 k⟩
  replace R := Rn
  clear Rn
  replace BM := BM.chg k (by have := HS.out; simp; omega)
  replace BA := BA.chg k (by have := HS.out; simp; omega)
  replace CC := CC.trans1 k
  have HV1 : Hid (w9.heap.size ≤ v1.heap.size) := k.size
  clear k
  have HOK : Hid (45 ≤ n ∧ ∀ i, i < F 44 → prW n (45 + 65 * i) (F (45 + 65 * i)) = 0) := ⟨a45, hok⟩
  clear hok
  obtain ⟨pl, cl, rfl⟩ := OL.lenL
  obtain ⟨y, hy⟩ : ∃ y, F 44 = y := ⟨_, rfl⟩
  have HY : Hid (F 44 = y ∧ y < 256) := ⟨hy, by rw [← hy]; exact HB.out.bd 44 (by omega)⟩
  have hpl : 45 + 65 * F 44 ≤ n := by
    by_cases h0 : F 44 = 0
    · omega
    · have := HOK.out.2 (F 44 - 1) (by omega)
      by_cases hq : n < 45 + 65 * (F 44 - 1) + 65
      · exact absurd (show prW n (45 + 65 * (F 44 - 1)) (F (45 + 65 * (F 44 - 1))) = 3 from if_pos hq) (by rw [this]; decide)
      · omega
  rw [hy] at OL R hpl
  have R0 : Rd v1 r (.slice (some ⟨g, o, none⟩) n c) ((45 + 65 * y : Nat) : Int) sList bl := R
  rw [hy]
  clear hy R
  have ff := BM.frozen 100
  have cf := ms_at BM 100 _ (ms_list _)
  replace BM := (BM.setCell 100 (.slice pl y cl)).to (ms_set_list _ _)
  replace BA := BA.setOther (show ab ≠ mb by have := HS.out; omega) 100 (.slice pl y cl)
  have k : Chg v1 (v1.setCell ⟨mb, 100, none⟩ (.slice pl y cl)) [mb] := (Chg.refl v1 [mb]).setIn (by simp) 100 _
  replace R0 := R0.chg k (by have := HS.out; simp; omega)
  replace OL := OL.far k (fun y hy => by have := HBS.out; simp at hy; omega)
  replace CC := CC.trans k (fun i hi => by simp at hi; subst hi; exact Or.inr HS.out.2.2.2.2)
  have HV2P : w9.heap.size ≤ (v1.setCell ⟨mb, 100, none⟩ (.slice pl y cl)).heap.size := Nat.le_trans HV1.out k.size
  clear k KW
  go_wp2_with fail
  generalize (v1.setCell ⟨mb, 100, none⟩ (.slice pl y cl)) = v2 at *
  clear ff cf
  have HV2 : Hid (w9.heap.size ≤ v2.heap.size) := HV2P
  clear HV2P
  refine (HTx.out v2 (45 + 65 * y) _ _ hpl R0 (HB.out.chg CC (by simp; exact HG.out))).mono ?_
  rintro e v3 (⟨ht1, ht2, vt, rfl, OT, Rn, k⟩ | ⟨yy, hyy, ⟨vf, rfl, hf⟩, k⟩)
  rotate_left
  · exact ⟨rfl, Or.inl ⟨sText, 45 + 65 * y, yy, Or.inr (Or.inr (Or.inr (Or.inr (Or.inr ⟨HOK.out.1, HOK.out.2, Or.inl ⟨rfl, by rw [HY.out.1], hyy⟩⟩)))), vf, rfl, hf.lw CC.size⟩, CC.trans1 k⟩
  have R := Rn
  clear Rn R0
  replace BM := BM.chg k (by have := HS.out; simp; omega)
  replace BA := BA.chg k (by have := HS.out; simp; omega)
  replace OL := OL.far k (fun y hy => by have := HBS.out; simp at hy; omega)
  replace CC := CC.trans1 k
  have OT1 : Own v3 w9.heap.size vt (nm F (45 + 65 * y) 4) (fun j => F (45 + 65 * y + 4 + j)) := OT.base HV2.out
  clear k OT
  obtain ⟨pt, ct, rfl⟩ := slFm OT1.sl
  have HT4 : Hid (nm F (45 + 65 * y) 4 ≤ 1048575 ∧ 45 + 65 * y + 4 + nm F (45 + 65 * y) 4 ≤ n) := ⟨ht2, ht1⟩
  obtain ⟨L, hL⟩ : ∃ L, nm F (45 + 65 * y) 4 = L := ⟨_, rfl⟩
  have HLL : Hid (nm F (45 + 65 * y) 4 = L) := hL
  rw [hL] at OT1 R ht1 ht2
  rw [hL]
  clear hL
  have ff := BM.frozen 101
  have cf := ms_at BM 101 _ (ms_text _)
  replace BM := (BM.setCell 101 (.slice pt L ct)).to (ms_set_text _ _)
  replace BA := BA.setOther (show ab ≠ mb by have := HS.out; omega) 101 (.slice pt L ct)
  have k : Chg v3 (v3.setCell ⟨mb, 101, none⟩ (.slice pt L ct)) [mb] := (Chg.refl v3 [mb]).setIn (by simp) 101 _
  replace R := R.chg k (by have := HS.out; simp; omega)
  replace OL := OL.far k (fun y hy => by have := HBS.out; simp at hy; omega)
  replace OT1 := OT1.far k (fun y hy => by have := HBS.out; simp at hy; omega)
  replace CC := CC.trans k (fun i hi => by simp at hi; subst hi; exact Or.inr HS.out.2.2.2.2)
  clear k
  go_wp2_with fail
  generalize (v3.setCell ⟨mb, 101, none⟩ (.slice pt L ct)) = v4 at *
  clear ff cf
  refine (end_s r n c (45 + 65 * y + 4 + L) _ _ _ ht1 v4 R).mono ?_
  rintro e v5 (⟨hz, rfl, k⟩ | ⟨hz, ⟨vf, rfl, hf⟩, k⟩)
  rotate_left
  · exact ⟨rfl, Or.inl ⟨sTail, 45 + 65 * y + 4 + L, 104, Or.inr (Or.inr (Or.inr (Or.inr (Or.inr ⟨HOK.out.1, HOK.out.2, Or.inr ⟨by rw [HY.out.1, HLL.out]; exact ht2, by rw [HY.out.1, HLL.out]; exact hz, rfl, by rw [HY.out.1, HLL.out], rfl⟩⟩)))), vf, rfl, hf.lw CC.size⟩, CC.trans1 k⟩
  replace BM := BM.chg k (by have := HS.out; simp; omega)
  replace BA := BA.chg k (by have := HS.out; simp; omega)
  replace OL := OL.far k (fun y hy => by have := HBS.out; simp at hy; omega)
  replace OT1 := OT1.far k (fun y hy => by have := HBS.out; simp at hy; omega)
  replace CC := CC.trans1 k
  clear k
  have HZ : Hid (n = 45 + 65 * y + 4 + L) := hz.symm
  clear hz
  obtain ⟨M, hM⟩ : ∃ M, M = ({ ({ ({ ({ ({ (ms0 3 : Ms) with ses := U } : Ms) with fr := x1 } : Ms) with to := x2 } : Ms) with list := .slice pl y cl } : Ms) with text := .slice pt L ct } : Ms) := ⟨_, rfl⟩
  have hM1 : M.list.oneCell' = true ∧ M.text.oneCell' = true := by rw [hM]; exact ⟨rfl, rfl⟩
  have HMM : Hid (M = ({ ({ ({ ({ ({ (ms0 3 : Ms) with ses := U } : Ms) with fr := x1 } : Ms) with to := x2 } : Ms) with list := .slice pl y cl } : Ms) with text := .slice pt L ct } : Ms)) := hM
  rw [← hM] at BM
  clear hM
  have HOW : Hid (OwnR v5 w9.heap.size 27 65 (.slice pl y cl) y (lsF F 45) ∧ Own v5 w9.heap.size (.slice pt L ct) L (fun j => F (45 + 65 * y + 4 + j))) := ⟨OL, OT1⟩
  clear OL OT1
  go_wp2_with (first
    | (refine wpList_load_row rfl 35 _ rfl mb rfl 35 _ (0, 0) _ BM Tryz.underlying35 rfl (by rw [msC_size]; exact msInfoW) ?_)
    | (refine store_w BA rfl 35 _ _ (msC M) rfl rfl rfl (by rw [msC_size]; exact msInfoW) (by rw [msC_size, msC_size]) (ms_oneC _ hM1.1 hM1.2) ?_; intro wE BAE kE))
  exact bodyPost_ret (results_cell_row Tryz.results86 _ _ ab 35 (msC M) (0, 0) _ rfl BAE Tryz.underlying35 rfl (by rw [msC_size]; exact msInfoW)) rfl ⟨Or.inr ⟨⟨HOK.out, by rw [HY.out.1, HLL.out]; exact ht2, by rw [HY.out.1, HLL.out]; exact HZ.out⟩, .slice pl y cl, .slice pt L ct, w9.heap.size, by rw [HMM.out]; unfold rd0; rw [HU.out, HX1.out, HX2.out], HBS.out.2.2.2, by rw [HY.out.1]; exact HOW.out.1.far kE (fun y hy => by have := HBS.out; simp at hy; omega), by rw [HY.out.1, HLL.out]; exact HOW.out.2.far kE (fun y hy => by have := HBS.out; simp at hy; omega)⟩, CC.trans kE (fun i hi => by simp at hi; subst hi; exact Or.inr HS.out.2.2.2.1)⟩
end Go.Proofs.YtgjclegpnbjlkaaGreatDoor
