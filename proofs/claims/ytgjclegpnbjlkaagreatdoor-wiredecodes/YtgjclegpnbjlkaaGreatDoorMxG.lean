/- Joined: W37, W38. -/
import Derived.Test.YtgjclegpnbjlkaaGreatDoorMwE
import Derived.Test.YtgjclegpnbjlkaaGreatDoorMwC
set_option linter.all false
namespace Go.Proofs.YtgjclegpnbjlkaaGreatDoor
set_option maxHeartbeats 16000000
set_option maxRecDepth 100000
open Go.RowKit
theorem scInfoM : (Tryz.prog.info? 30).map (·.size) = some 32 := by kernel_rfl
theorem sigInfoM : (Tryz.prog.info? 32).map (·.size) = some 64 := by kernel_rfl
theorem cmInfoM : (Tryz.prog.info? 27).map (·.size) = some 65 := by kernel_rfl
theorem ms_set_pair (m : Ms) (d : Int) (h b : Nat → Nat) : setL (msC m) 35 (.int .i64 d :: (yL 32 h ++ yL 32 b)) = msC { m with id := d, hid := h, bnd := b } := by kernel_rfl
theorem ms_set_bind (m : Ms) (f : Nat → Nat) : setL (msC m) 102 (yL 32 f) = msC { m with bind := f } := by kernel_rfl
theorem ms_set_share (m : Ms) (f : Nat → Nat) : setL (msC m) 134 (yL 32 f) = msC { m with share := f } := by kernel_rfl
theorem ms_set_sig (m : Ms) (f : Nat → Nat) : setL (msC m) 166 (yL 64 f) = msC { m with sig := f } := by kernel_rfl
theorem store_row {ops : Array Oper} {rest : List Oper} {op : Oper} {a : Act} {w : World} {Q : Exit → Act → World → Prop} (hgd : op.guard = none) (ty : TypeId) (x y : Operand) (ho : op.op = .store ty x y) (b of : Nat) (m m' : Ms) (cs : List Value) {T : TypeId}
   (hx : a.eval x = .pointer (some ⟨b, of, none⟩)) (hy : a.eval y = .agg cs.toArray) (hB : Blk w b (msC m) T) (hl : of + cs.length ≤ 231) (hi : (Tryz.prog.info? ty).map (·.size) = some cs.length) (h1 : ∀ v ∈ cs, v.oneCell' = true) (hs : setL (msC m) of cs = msC m')
   (h : ∀ w', Blk w' b (msC m') T → Chg w w' [b] → wpList Tryz.prog ops Q rest (a.put op.dst undef) w') : wpList Tryz.prog ops Q (op :: rest) a w :=
 wpList_store_mid hgd ty x y ho b of cs.toArray hx hy (hB.there (by rw [List.size_toArray, msC_size]; exact hl)) (by rw [List.size_toArray]; exact hi) (all_oneCell_toArray h1)
   (h _ ((hB.setCells of cs).to hs) ((Chg.refl w [b]).setCellsIn (by simp) of cs))
theorem yL_1 (n : Nat) (f : Nat → Nat) : ∀ v ∈ yL n f, v.oneCell' = true := fun v hv => by
 unfold yL at hv
 simp only [List.mem_map] at hv
 obtain ⟨_, _, rfl⟩ := hv
 rfl
theorem row_1 (d : Int) (h b : Nat → Nat) : ∀ v ∈ (.int .i64 d :: (yL 32 h ++ yL 32 b) : List Value), v.oneCell' = true := fun v hv => by
 simp only [List.mem_cons, List.mem_append] at hv
 rcases hv with rfl | hv | hv
 · rfl
 · exact yL_1 _ _ _ hv
 · exact yL_1 _ _ _ hv
def sBind : ByteArray := ⟨#[98, 105, 110, 100]⟩
def sShare : ByteArray := ⟨#[115, 104, 97, 114, 101]⟩
def FdQ (w : World) (r : Nat) (V : Value) (n a k : Nat) (v : Value) (s : ByteArray) (e : Ending) (w' : World) : Prop :=
 (a + k ≤ n ∧ e = .returned v ∧ Rd w' r V ((a + k : Nat) : Int) s (a : Int) ∧ Chg w w' [r]) ∨ (n < a + k ∧ Gu w.heap.size s (a : Int) 3 e w' ∧ Chg w w' [r])
theorem rword_s (r n c g o a : Nat) (F : Nat → Nat) (b : Int) (s s' : ByteArray) (ha : a ≤ n) (hn : n < c) (hn2 : c ≤ 9223372036854775807) (w : World) (h : Rd w r (.slice (some ⟨g, o, none⟩) n c) (a : Int) s b) (hB : Bs w g o n F) (hgr : ¬ g = r) :
   Calls Tryz.prog 99 #[.pointer (some ⟨r, 0, none⟩), .string s'] w fun e w' => FdQ w r (.slice (some ⟨g, o, none⟩) n c) n a 32 (.agg (yC 32 (fun j => F (a + j)))) s' e w' := by
 by_cases hk : a + 32 ≤ n
 · exact (word_ok r n c g o a F b s s' hk (by omega) hn2 w h hB hgr).mono fun e w' q => Or.inl ⟨hk, q⟩
 · exact (word_gu r n c a _ b s s' (by omega) ha (by omega) w h).mono fun e w' q => Or.inr ⟨by omega, q⟩
theorem party_s (r n c g o a : Nat) (F : Nat → Nat) (b : Int) (s s' : ByteArray) (ha : a ≤ n) (hn : n < c) (hn2 : c ≤ 9223372036854775807) (w : World) (h : Rd w r (.slice (some ⟨g, o, none⟩) n c) (a : Int) s b) (hB : Bs w g o n F) (hgr : ¬ g = r) :
   Calls Tryz.prog 100 #[.pointer (some ⟨r, 0, none⟩), .string s'] w fun e w' => FdQ w r (.slice (some ⟨g, o, none⟩) n c) n a 1 (.int .i64 ((F a : Nat) : Int)) s' e w' := by
 by_cases hk : a + 1 ≤ n
 · exact (party_ok r n c g o a F b s s' hk (by omega) hn2 w h hB hgr).mono fun e w' ⟨q1, q2⟩ => Or.inl ⟨hk, by rw [q1, show nm F a 1 = F a from by simp [nm]], q2⟩
 · exact (party_gu r n c a _ b s s' (by omega) ha (by omega) w h).mono fun e w' q => Or.inr ⟨by omega, q⟩
theorem sig_s (r n c g o a : Nat) (F : Nat → Nat) (b : Int) (s : ByteArray) (ha : a ≤ n) (hn : n < c) (hn2 : c ≤ 9223372036854775807) (w : World) (h : Rd w r (.slice (some ⟨g, o, none⟩) n c) (a : Int) s b) (hB : Bs w g o n F) (hgr : ¬ g = r) :
   Calls Tryz.prog 105 #[.pointer (some ⟨r, 0, none⟩)] w fun e w' => FdQ w r (.slice (some ⟨g, o, none⟩) n c) n a 64 (.agg (yC 64 (fun j => F (a + j)))) sSig e w' := by
 by_cases hk : a + 64 ≤ n
 · exact (sig_ok r n c g o a F b s hk (by omega) hn2 w h hB hgr).mono fun e w' q => Or.inl ⟨hk, q⟩
 · exact (sig_gu r n c a _ b s (by omega) ha (by omega) w h).mono fun e w' q => Or.inr ⟨by omega, q⟩
def CdQ (w : World) (r : Nat) (V : Value) (n a : Nat) (F : Nat → Nat) (e : Ending) (w' : World) : Prop :=
 (a + 2 ≤ n ∧ nm F a 2 ≠ 0 ∧ e = .returned (.int .i64 ((nm F a 2 : Nat) : Int)) ∧ Rd w' r V ((a + 2 : Nat) : Int) sCode (a : Int) ∧ Chg w w' [r]) ∨ (n < a + 2 ∧ Gu w.heap.size sCode (a : Int) 3 e w' ∧ Chg w w' [r]) ∨ (a + 2 ≤ n ∧ nm F a 2 = 0 ∧ Gu w.heap.size sCode (a : Int) 1 e w' ∧ Chg w w' [r])
theorem code_s (r n c g o a : Nat) (F : Nat → Nat) (b : Int) (s : ByteArray) (ha : a ≤ n) (hn : n < c) (hn2 : c ≤ 9223372036854775807) (w : World) (h : Rd w r (.slice (some ⟨g, o, none⟩) n c) (a : Int) s b) (hB : Bs w g o n F) (hgr : ¬ g = r) :
   Calls Tryz.prog 104 #[.pointer (some ⟨r, 0, none⟩)] w fun e w' => CdQ w r (.slice (some ⟨g, o, none⟩) n c) n a F e w' := by
 by_cases hk : a + 2 ≤ n
 · by_cases h0 : nm F a 2 = 0
   · exact (code_0 r n c g o a F b s hk (by omega) hn2 w h hB hgr h0).mono fun e w' q => Or.inr (Or.inr ⟨hk, h0, q⟩)
   · exact (code_ok r n c g o a F b s hk (by omega) hn2 w h hB hgr (by omega)).mono fun e w' q => Or.inl ⟨hk, h0, q⟩
 · exact (code_gu r n c a _ b s (by omega) ha (by omega) w h).mono fun e w' q => Or.inr (Or.inl ⟨by omega, q⟩)
def EnQ (w : World) (r n a : Nat) (e : Ending) (w' : World) : Prop := (a = n ∧ e = .returned (.tuple #[]) ∧ Chg w w' [r]) ∨ (a < n ∧ Gu w.heap.size sTail (a : Int) 104 e w' ∧ Chg w w' [r])
theorem end_s (r n c a : Nat) (p : Option Addr) (b : Int) (s : ByteArray) (ha : a ≤ n) (w : World) (h : Rd w r (.slice p n c) (a : Int) s b) : Calls Tryz.prog 106 #[.pointer (some ⟨r, 0, none⟩)] w fun e w' => EnQ w r n a e w' := by
 by_cases hk : a = n
 · subst hk
   exact (end_ok r a c p b s w h).mono fun e w' ⟨q1, _, q3⟩ => Or.inl ⟨rfl, q1, q3⟩
 · exact (end_gu r n c a p b s (by omega) w h).mono fun e w' q => Or.inr ⟨by omega, q⟩
def tlW (n p : Nat) : Option (ByteArray × Nat × Nat) := if p < n then some (sTail, p, 104) else none
def bdW (n : Nat) (F : Nat → Nat) (K : Nat) : Option (ByteArray × Nat × Nat) :=
 if n < 42 then some (sSess, 10, 3) else if n < 43 then some (sFrm, 42, 3) else if n < 44 then some (sToo, 43, 3) else
 if K = 1 then tlW n 44 else
 if K = 2 then (if prW n 44 (F 44) ≠ 0 then some (sPair, 44, prW n 44 (F 44)) else tlW n 109) else
 if K = 4 then (if prW n 44 (F 44) ≠ 0 then some (sPair, 44, prW n 44 (F 44)) else if n < 141 then some (sBind, 109, 3) else if n < 173 then some (sShare, 141, 3) else tlW n 173) else
 if K = 5 then (if n < 46 then some (sCode, 44, 3) else if nm F 44 2 = 0 then some (sCode, 44, 1) else tlW n 46) else
 if n < 108 then some (sSig, 44, 3) else tlW n 108
def rd0 (F : Nat → Nat) (K : Int) : Ms := { ms0 K with ses := fun j => F (10 + j), fr := ((F 42 : Nat) : Int), to := ((F 43 : Nat) : Int) }
def rdM (F : Nat → Nat) (K : Nat) : Ms :=
 if K = 1 then rd0 F 1 else
 if K = 2 then { rd0 F 2 with id := ((F 44 : Nat) : Int), hid := fun j => F (44 + 1 + j), bnd := fun j => F (44 + 33 + j) } else
 if K = 4 then { rd0 F 4 with id := ((F 44 : Nat) : Int), hid := fun j => F (44 + 1 + j), bnd := fun j => F (44 + 33 + j), bind := fun j => F (109 + j), share := fun j => F (141 + j) } else
 if K = 5 then { rd0 F 5 with code := ((nm F 44 2 : Nat) : Int) } else { rd0 F 6 with sig := fun j => F (44 + j) }
def MgQ (w : World) (r n : Nat) (F : Nat → Nat) (K : Nat) (e : Ending) (w' : World) : Prop :=
 ((∃ s a y, bdW n F K = some (s, a, y) ∧ Gu w.heap.size s ((a : Nat) : Int) ((y : Nat) : Int) e w') ∨ (bdW n F K = none ∧ e = .returned (.agg (msC (rdM F K))))) ∧ Chg w w' [r]
theorem message_k1 (r n c g o : Nat) (F : Nat → Nat) (b : Int) (s : ByteArray) (h10 : 10 ≤ n) (hn : n < c) (hn2 : c ≤ 9223372036854775807) (w : World) (h : Rd w r (.slice (some ⟨g, o, none⟩) n c) ((10 : Nat) : Int) s b) (hB : Bs w g o n F) (hgr : ¬ g = r) :
   Calls Tryz.prog 86 #[.pointer (some ⟨r, 0, none⟩), .int .i64 1] w fun e w' => MgQ w r n F 1 e w' := by
 have HB : Hid (Bs w g o n F) := hB
 have HG : Hid (¬ g = r) := hgr
 have HL : Hid (r < w.heap.size) := Blk.lt h
 have HR : Hid (Rd w r (.slice (some ⟨g, o, none⟩) n c) ((10 : Nat) : Int) s b) := h
 have HN : Hid (10 ≤ n ∧ n < c ∧ c ≤ 9223372036854775807) := ⟨h10, hn, hn2⟩
 have HW : Hid (∀ w' a b s s', a ≤ n → Rd w' r (.slice (some ⟨g, o, none⟩) n c) ((a : Nat) : Int) s b → Bs w' g o n F → Calls Tryz.prog 99 #[.pointer (some ⟨r, 0, none⟩), .string s'] w' fun e w'' => FdQ w' r (.slice (some ⟨g, o, none⟩) n c) n a 32 (.agg (yC 32 (fun j => F (a + j)))) s' e w'') := fun w' a b s s' ha h1 h2 => rword_s r n c g o a F b s s' ha hn hn2 w' h1 h2 hgr
 have HPt : Hid (∀ w' a b s s', a ≤ n → Rd w' r (.slice (some ⟨g, o, none⟩) n c) ((a : Nat) : Int) s b → Bs w' g o n F → Calls Tryz.prog 100 #[.pointer (some ⟨r, 0, none⟩), .string s'] w' fun e w'' => FdQ w' r (.slice (some ⟨g, o, none⟩) n c) n a 1 (.int .i64 ((F a : Nat) : Int)) s' e w'') := fun w' a b s s' ha h1 h2 => party_s r n c g o a F b s s' ha hn hn2 w' h1 h2 hgr
 have HPr : Hid (∀ w' a b s s', a ≤ n → Rd w' r (.slice (some ⟨g, o, none⟩) n c) ((a : Nat) : Int) s b → Bs w' g o n F → Calls Tryz.prog 101 #[.pointer (some ⟨r, 0, none⟩), .string s'] w' fun e w'' => PrQ w' r (.slice (some ⟨g, o, none⟩) n c) n a F s' e w'') := fun w' a b s s' ha h1 h2 => pair_s r n c g o a F b s s' ha hn hn2 w' h1 h2 hgr
 have HCd : Hid (∀ w' a b s, a ≤ n → Rd w' r (.slice (some ⟨g, o, none⟩) n c) ((a : Nat) : Int) s b → Bs w' g o n F → Calls Tryz.prog 104 #[.pointer (some ⟨r, 0, none⟩)] w' fun e w'' => CdQ w' r (.slice (some ⟨g, o, none⟩) n c) n a F e w'') := fun w' a b s ha h1 h2 => code_s r n c g o a F b s ha hn hn2 w' h1 h2 hgr
 have HSg : Hid (∀ w' a b s, a ≤ n → Rd w' r (.slice (some ⟨g, o, none⟩) n c) ((a : Nat) : Int) s b → Bs w' g o n F → Calls Tryz.prog 105 #[.pointer (some ⟨r, 0, none⟩)] w' fun e w'' => FdQ w' r (.slice (some ⟨g, o, none⟩) n c) n a 64 (.agg (yC 64 (fun j => F (a + j)))) sSig e w'') := fun w' a b s ha h1 h2 => sig_s r n c g o a F b s ha hn hn2 w' h1 h2 hgr
 clear h10 hn hn2 h hB hgr
 go_enter Tryz.func86, Tryz.ntmps86
 go_wp2_with (first
   | (refine store_w BM rfl 35 _ _ (msC (ms0 1)) rfl rfl rfl (by rw [msC_size]; exact msInfoW) (by rw [msC_size, msC_size]) (ms_oneC _ rfl rfl) ?_; intro w3 BM3 k3)
   | (have _h := BA; with_reducible refine alloc_w rfl 35 rfl (.agg (msC (ms0 0))) zeroMsg (msC (ms0 0)) rfl ?_; intro mb w2 hmb BM k2)
   | (with_reducible refine alloc_w rfl 35 rfl (.agg (msC (ms0 0))) zeroMsg (msC (ms0 0)) rfl ?_; intro ab w1 hab BA k1)
   | (with_reducible refine wpList_buildW ?_ 35 _ ?_ (msC (ms0 1)) ?_ ?_
      · rfl
      · rfl
      · exact builtMsg 1
      skip))
 have HS : Hid (r < ab ∧ r < mb ∧ ab < mb ∧ w.heap.size ≤ ab ∧ w.heap.size ≤ mb) := by have := HL.out; have := BA.lt; have := k1.size; exact ⟨by omega, by omega, by omega, by omega, by omega⟩
 have BA3 := (BA.chg k2 (by simp)).chg k3 (by have := HS.out; simp; omega)
 have CC : Chg w w3 [r] := (((k1.trans1 k2).wide (l := [r])).trans k3 (fun i hi => by simp at hi; subst hi; exact Or.inr HS.out.2.2.2.2))
 have R := ((HR.out.chg k1 (by simp)).chg k2 (by simp)).chg k3 (by have := HS.out; simp; omega)
 clear BA BM k1 k2 k3 hab hmb
 have BM := BM3
 have BA := BA3
 clear BM3 BA3
 have a10 : 10 ≤ n := HN.out.1
 refine (HW.out w3 10 _ _ sSess a10 R (HB.out.chg CC (by simp; exact HG.out))).mono ?_
 rintro e w4 (⟨a42, rfl, Rn, k⟩ | ⟨hx, ⟨vf, rfl, hf⟩, k⟩)
 rotate_left
 · exact ⟨rfl, Or.inl ⟨sSess, 10, 3, (by unfold bdW tlW; rw [if_pos (by omega)]), vf, rfl, hf.lw CC.size⟩, CC.trans1 k⟩
 skip
 replace R := Rn
 clear Rn
 replace BM := BM.chg k (by have := HS.out; simp; omega)
 replace BA := BA.chg k (by have := HS.out; simp; omega)
 replace CC := CC.trans1 k
 clear k
 obtain ⟨U, hU⟩ : ∃ U, (fun j => F (10 + j)) = U := ⟨_, rfl⟩
 have HU : Hid ((fun j => F (10 + j)) = U) := hU
 rw [hU]
 clear hU
 have BMo := BM
 go_wp2_with (first
   | (with_reducible refine store_row ?_ 24 (.tmp 10) (.tmp 9) ?_ mb 1 (ms0 1) ({ (ms0 1 : Ms) with ses := U }) (yL 32 U) ?_ ?_ BMo ?_ ?_ ?_ ?_ ?_
      · rfl
      · rfl
      · rfl
      · rfl
      · simp [yL]
      · rw [yL_len]; exact hashInfoW
      · exact yL_1 _ _
      · exact ms_set_ses _ _
      intro w5 BMn k))
 replace BM := BMn
 clear BMo BMn
 replace BA := BA.chg k (by have := HS.out; simp; omega)
 replace R := R.chg k (by have := HS.out; simp; omega)
 replace CC := CC.trans k (fun i hi => by simp at hi; subst hi; exact Or.inr HS.out.2.2.2.2)
 clear k
 refine (HPt.out w5 42 _ _ sFrm (by omega) R (HB.out.chg CC (by simp; exact HG.out))).mono ?_
 rintro e w6 (⟨a43, rfl, Rn, k⟩ | ⟨hx, ⟨vf, rfl, hf⟩, k⟩)
 rotate_left
 · exact ⟨rfl, Or.inl ⟨sFrm, 42, 3, (by unfold bdW tlW; rw [if_neg (by omega), if_pos (by omega)]), vf, rfl, hf.lw CC.size⟩, CC.trans1 k⟩
 skip
 replace R := Rn
 clear Rn
 replace BM := BM.chg k (by have := HS.out; simp; omega)
 replace BA := BA.chg k (by have := HS.out; simp; omega)
 replace CC := CC.trans1 k
 clear k
 obtain ⟨x1, hx1⟩ : ∃ x, ((F 42 : Nat) : Int) = x := ⟨_, rfl⟩
 have HX1 : Hid (((F 42 : Nat) : Int) = x1) := hx1
 rw [hx1]
 clear hx1
 have ff := BM.frozen 33
 have cf := ms_at BM 33 _ (ms_fr _)
 replace BM := (BM.setCell 33 (.int .i64 x1)).to (ms_set_fr _ x1)
 replace BA := BA.setOther (show ab ≠ mb by have := HS.out; omega) 33 (.int .i64 x1)
 have k : Chg w6 (w6.setCell ⟨mb, 33, none⟩ (.int .i64 x1)) [mb] := (Chg.refl w6 [mb]).setIn (by simp) 33 _
 replace R := R.chg k (by have := HS.out; simp; omega)
 replace CC := CC.trans k (fun i hi => by simp at hi; subst hi; exact Or.inr HS.out.2.2.2.2)
 clear k
 go_wp2_with fail
 generalize (w6.setCell ⟨mb, 33, none⟩ (.int .i64 x1)) = w7 at *
 clear ff cf
 refine (HPt.out w7 43 _ _ sToo (by omega) R (HB.out.chg CC (by simp; exact HG.out))).mono ?_
 rintro e w8 (⟨a44, rfl, Rn, k⟩ | ⟨hx, ⟨vf, rfl, hf⟩, k⟩)
 rotate_left
 · exact ⟨rfl, Or.inl ⟨sToo, 43, 3, (by unfold bdW tlW; rw [if_neg (by omega), if_neg (by omega), if_pos (by omega)]), vf, rfl, hf.lw CC.size⟩, CC.trans1 k⟩
 skip
 replace R := Rn
 clear Rn
 replace BM := BM.chg k (by have := HS.out; simp; omega)
 replace BA := BA.chg k (by have := HS.out; simp; omega)
 replace CC := CC.trans1 k
 clear k
 obtain ⟨x2, hx2⟩ : ∃ x, ((F 43 : Nat) : Int) = x := ⟨_, rfl⟩
 have HX2 : Hid (((F 43 : Nat) : Int) = x2) := hx2
 rw [hx2]
 clear hx2
 have ff := BM.frozen 34
 have cf := ms_at BM 34 _ (ms_to _)
 replace BM := (BM.setCell 34 (.int .i64 x2)).to (ms_set_to _ x2)
 replace BA := BA.setOther (show ab ≠ mb by have := HS.out; omega) 34 (.int .i64 x2)
 have k : Chg w8 (w8.setCell ⟨mb, 34, none⟩ (.int .i64 x2)) [mb] := (Chg.refl w8 [mb]).setIn (by simp) 34 _
 replace R := R.chg k (by have := HS.out; simp; omega)
 replace CC := CC.trans k (fun i hi => by simp at hi; subst hi; exact Or.inr HS.out.2.2.2.2)
 clear k
 go_wp2_with fail
 generalize (w8.setCell ⟨mb, 34, none⟩ (.int .i64 x2)) = w9 at *
 clear ff cf
 refine (end_s r n c 44 _ _ _ (by omega) w9 R).mono ?_
 rintro e w10 (⟨hz, rfl, k⟩ | ⟨hz, ⟨vf, rfl, hf⟩, k⟩)
 rotate_left
 · exact ⟨rfl, Or.inl ⟨sTail, 44, 104, (by unfold bdW tlW; rw [if_neg (by omega), if_neg (by omega), if_neg (by omega)]; rw [if_pos rfl]; rw [if_pos (by omega)]), vf, rfl, hf.lw CC.size⟩, CC.trans1 k⟩
 replace BM := BM.chg k (by have := HS.out; simp; omega)
 replace BA := BA.chg k (by have := HS.out; simp; omega)
 replace CC := CC.trans1 k
 clear k
 have HZ : Hid (n = 44) := hz.symm
 clear hz
 obtain ⟨M, hM⟩ : ∃ M, M = ({ ({ ({ (ms0 1 : Ms) with ses := U } : Ms) with fr := x1 } : Ms) with to := x2 } : Ms) := ⟨_, rfl⟩
 have hM1 : M.list.oneCell' = true ∧ M.text.oneCell' = true := by rw [hM]; exact ⟨rfl, rfl⟩
 have HMM : Hid (M = ({ ({ ({ (ms0 1 : Ms) with ses := U } : Ms) with fr := x1 } : Ms) with to := x2 } : Ms)) := hM
 rw [← hM] at BM
 clear hM
 go_wp2_with (first
   | (refine wpList_load_row rfl 35 _ rfl mb rfl 35 _ (0, 0) _ BM Tryz.underlying35 rfl (by rw [msC_size]; exact msInfoW) ?_)
   | (refine store_w BA rfl 35 _ _ (msC M) rfl rfl rfl (by rw [msC_size]; exact msInfoW) (by rw [msC_size, msC_size]) (ms_oneC _ hM1.1 hM1.2) ?_; intro wE BAE kE))
 exact bodyPost_ret (results_cell_row Tryz.results86 _ _ ab 35 (msC M) (0, 0) _ rfl BAE Tryz.underlying35 rfl (by rw [msC_size]; exact msInfoW)) rfl ⟨Or.inr ⟨(by have hz := HZ.out; unfold bdW tlW; rw [if_neg (by omega), if_neg (by omega), if_neg (by omega)]; rw [if_pos rfl]; rw [if_neg (by omega)]), by rw [HMM.out]; unfold rdM; rw [if_pos rfl]; unfold rd0; rw [HU.out, HX1.out, HX2.out]⟩, CC.trans kE (fun i hi => by simp at hi; subst hi; exact Or.inr HS.out.2.2.2.1)⟩
theorem message_k2 (r n c g o : Nat) (F : Nat → Nat) (b : Int) (s : ByteArray) (h10 : 10 ≤ n) (hn : n < c) (hn2 : c ≤ 9223372036854775807) (w : World) (h : Rd w r (.slice (some ⟨g, o, none⟩) n c) ((10 : Nat) : Int) s b) (hB : Bs w g o n F) (hgr : ¬ g = r) :
   Calls Tryz.prog 86 #[.pointer (some ⟨r, 0, none⟩), .int .i64 2] w fun e w' => MgQ w r n F 2 e w' := by
 have HB : Hid (Bs w g o n F) := hB
 have HG : Hid (¬ g = r) := hgr
 have HL : Hid (r < w.heap.size) := Blk.lt h
 have HR : Hid (Rd w r (.slice (some ⟨g, o, none⟩) n c) ((10 : Nat) : Int) s b) := h
 have HN : Hid (10 ≤ n ∧ n < c ∧ c ≤ 9223372036854775807) := ⟨h10, hn, hn2⟩
 have HW : Hid (∀ w' a b s s', a ≤ n → Rd w' r (.slice (some ⟨g, o, none⟩) n c) ((a : Nat) : Int) s b → Bs w' g o n F → Calls Tryz.prog 99 #[.pointer (some ⟨r, 0, none⟩), .string s'] w' fun e w'' => FdQ w' r (.slice (some ⟨g, o, none⟩) n c) n a 32 (.agg (yC 32 (fun j => F (a + j)))) s' e w'') := fun w' a b s s' ha h1 h2 => rword_s r n c g o a F b s s' ha hn hn2 w' h1 h2 hgr
 have HPt : Hid (∀ w' a b s s', a ≤ n → Rd w' r (.slice (some ⟨g, o, none⟩) n c) ((a : Nat) : Int) s b → Bs w' g o n F → Calls Tryz.prog 100 #[.pointer (some ⟨r, 0, none⟩), .string s'] w' fun e w'' => FdQ w' r (.slice (some ⟨g, o, none⟩) n c) n a 1 (.int .i64 ((F a : Nat) : Int)) s' e w'') := fun w' a b s s' ha h1 h2 => party_s r n c g o a F b s s' ha hn hn2 w' h1 h2 hgr
 have HPr : Hid (∀ w' a b s s', a ≤ n → Rd w' r (.slice (some ⟨g, o, none⟩) n c) ((a : Nat) : Int) s b → Bs w' g o n F → Calls Tryz.prog 101 #[.pointer (some ⟨r, 0, none⟩), .string s'] w' fun e w'' => PrQ w' r (.slice (some ⟨g, o, none⟩) n c) n a F s' e w'') := fun w' a b s s' ha h1 h2 => pair_s r n c g o a F b s s' ha hn hn2 w' h1 h2 hgr
 have HCd : Hid (∀ w' a b s, a ≤ n → Rd w' r (.slice (some ⟨g, o, none⟩) n c) ((a : Nat) : Int) s b → Bs w' g o n F → Calls Tryz.prog 104 #[.pointer (some ⟨r, 0, none⟩)] w' fun e w'' => CdQ w' r (.slice (some ⟨g, o, none⟩) n c) n a F e w'') := fun w' a b s ha h1 h2 => code_s r n c g o a F b s ha hn hn2 w' h1 h2 hgr
 have HSg : Hid (∀ w' a b s, a ≤ n → Rd w' r (.slice (some ⟨g, o, none⟩) n c) ((a : Nat) : Int) s b → Bs w' g o n F → Calls Tryz.prog 105 #[.pointer (some ⟨r, 0, none⟩)] w' fun e w'' => FdQ w' r (.slice (some ⟨g, o, none⟩) n c) n a 64 (.agg (yC 64 (fun j => F (a + j)))) sSig e w'') := fun w' a b s ha h1 h2 => sig_s r n c g o a F b s ha hn hn2 w' h1 h2 hgr
 clear h10 hn hn2 h hB hgr
 go_enter Tryz.func86, Tryz.ntmps86
 go_wp2_with (first
   | (refine store_w BM rfl 35 _ _ (msC (ms0 2)) rfl rfl rfl (by rw [msC_size]; exact msInfoW) (by rw [msC_size, msC_size]) (ms_oneC _ rfl rfl) ?_; intro w3 BM3 k3)
   | (have _h := BA; with_reducible refine alloc_w rfl 35 rfl (.agg (msC (ms0 0))) zeroMsg (msC (ms0 0)) rfl ?_; intro mb w2 hmb BM k2)
   | (with_reducible refine alloc_w rfl 35 rfl (.agg (msC (ms0 0))) zeroMsg (msC (ms0 0)) rfl ?_; intro ab w1 hab BA k1)
   | (with_reducible refine wpList_buildW ?_ 35 _ ?_ (msC (ms0 2)) ?_ ?_
      · rfl
      · rfl
      · exact builtMsg 2
      skip))
 have HS : Hid (r < ab ∧ r < mb ∧ ab < mb ∧ w.heap.size ≤ ab ∧ w.heap.size ≤ mb) := by have := HL.out; have := BA.lt; have := k1.size; exact ⟨by omega, by omega, by omega, by omega, by omega⟩
 have BA3 := (BA.chg k2 (by simp)).chg k3 (by have := HS.out; simp; omega)
 have CC : Chg w w3 [r] := (((k1.trans1 k2).wide (l := [r])).trans k3 (fun i hi => by simp at hi; subst hi; exact Or.inr HS.out.2.2.2.2))
 have R := ((HR.out.chg k1 (by simp)).chg k2 (by simp)).chg k3 (by have := HS.out; simp; omega)
 clear BA BM k1 k2 k3 hab hmb
 have BM := BM3
 have BA := BA3
 clear BM3 BA3
 have a10 : 10 ≤ n := HN.out.1
 refine (HW.out w3 10 _ _ sSess a10 R (HB.out.chg CC (by simp; exact HG.out))).mono ?_
 rintro e w4 (⟨a42, rfl, Rn, k⟩ | ⟨hx, ⟨vf, rfl, hf⟩, k⟩)
 rotate_left
 · exact ⟨rfl, Or.inl ⟨sSess, 10, 3, (by unfold bdW tlW; rw [if_pos (by omega)]), vf, rfl, hf.lw CC.size⟩, CC.trans1 k⟩
 skip
 replace R := Rn
 clear Rn
 replace BM := BM.chg k (by have := HS.out; simp; omega)
 replace BA := BA.chg k (by have := HS.out; simp; omega)
 replace CC := CC.trans1 k
 clear k
 obtain ⟨U, hU⟩ : ∃ U, (fun j => F (10 + j)) = U := ⟨_, rfl⟩
 have HU : Hid ((fun j => F (10 + j)) = U) := hU
 rw [hU]
 clear hU
 have BMo := BM
 go_wp2_with (first
   | (with_reducible refine store_row ?_ 24 (.tmp 10) (.tmp 9) ?_ mb 1 (ms0 2) ({ (ms0 2 : Ms) with ses := U }) (yL 32 U) ?_ ?_ BMo ?_ ?_ ?_ ?_ ?_
      · rfl
      · rfl
      · rfl
      · rfl
      · simp [yL]
      · rw [yL_len]; exact hashInfoW
      · exact yL_1 _ _
      · exact ms_set_ses _ _
      intro w5 BMn k))
 replace BM := BMn
 clear BMo BMn
 replace BA := BA.chg k (by have := HS.out; simp; omega)
 replace R := R.chg k (by have := HS.out; simp; omega)
 replace CC := CC.trans k (fun i hi => by simp at hi; subst hi; exact Or.inr HS.out.2.2.2.2)
 clear k
 refine (HPt.out w5 42 _ _ sFrm (by omega) R (HB.out.chg CC (by simp; exact HG.out))).mono ?_
 rintro e w6 (⟨a43, rfl, Rn, k⟩ | ⟨hx, ⟨vf, rfl, hf⟩, k⟩)
 rotate_left
 · exact ⟨rfl, Or.inl ⟨sFrm, 42, 3, (by unfold bdW tlW; rw [if_neg (by omega), if_pos (by omega)]), vf, rfl, hf.lw CC.size⟩, CC.trans1 k⟩
 skip
 replace R := Rn
 clear Rn
 replace BM := BM.chg k (by have := HS.out; simp; omega)
 replace BA := BA.chg k (by have := HS.out; simp; omega)
 replace CC := CC.trans1 k
 clear k
 obtain ⟨x1, hx1⟩ : ∃ x, ((F 42 : Nat) : Int) = x := ⟨_, rfl⟩
 have HX1 : Hid (((F 42 : Nat) : Int) = x1) := hx1
 rw [hx1]
 clear hx1
 have ff := BM.frozen 33
 have cf := ms_at BM 33 _ (ms_fr _)
 replace BM := (BM.setCell 33 (.int .i64 x1)).to (ms_set_fr _ x1)
 replace BA := BA.setOther (show ab ≠ mb by have := HS.out; omega) 33 (.int .i64 x1)
 have k : Chg w6 (w6.setCell ⟨mb, 33, none⟩ (.int .i64 x1)) [mb] := (Chg.refl w6 [mb]).setIn (by simp) 33 _
 replace R := R.chg k (by have := HS.out; simp; omega)
 replace CC := CC.trans k (fun i hi => by simp at hi; subst hi; exact Or.inr HS.out.2.2.2.2)
 clear k
 go_wp2_with fail
 generalize (w6.setCell ⟨mb, 33, none⟩ (.int .i64 x1)) = w7 at *
 clear ff cf
 refine (HPt.out w7 43 _ _ sToo (by omega) R (HB.out.chg CC (by simp; exact HG.out))).mono ?_
 rintro e w8 (⟨a44, rfl, Rn, k⟩ | ⟨hx, ⟨vf, rfl, hf⟩, k⟩)
 rotate_left
 · exact ⟨rfl, Or.inl ⟨sToo, 43, 3, (by unfold bdW tlW; rw [if_neg (by omega), if_neg (by omega), if_pos (by omega)]), vf, rfl, hf.lw CC.size⟩, CC.trans1 k⟩
 skip
 replace R := Rn
 clear Rn
 replace BM := BM.chg k (by have := HS.out; simp; omega)
 replace BA := BA.chg k (by have := HS.out; simp; omega)
 replace CC := CC.trans1 k
 clear k
 obtain ⟨x2, hx2⟩ : ∃ x, ((F 43 : Nat) : Int) = x := ⟨_, rfl⟩
 have HX2 : Hid (((F 43 : Nat) : Int) = x2) := hx2
 rw [hx2]
 clear hx2
 have ff := BM.frozen 34
 have cf := ms_at BM 34 _ (ms_to _)
 replace BM := (BM.setCell 34 (.int .i64 x2)).to (ms_set_to _ x2)
 replace BA := BA.setOther (show ab ≠ mb by have := HS.out; omega) 34 (.int .i64 x2)
 have k : Chg w8 (w8.setCell ⟨mb, 34, none⟩ (.int .i64 x2)) [mb] := (Chg.refl w8 [mb]).setIn (by simp) 34 _
 replace R := R.chg k (by have := HS.out; simp; omega)
 replace CC := CC.trans k (fun i hi => by simp at hi; subst hi; exact Or.inr HS.out.2.2.2.2)
 clear k
 go_wp2_with fail
 generalize (w8.setCell ⟨mb, 34, none⟩ (.int .i64 x2)) = w9 at *
 clear ff cf
 refine (HPr.out w9 44 _ _ sPair (by omega) R (HB.out.chg CC (by simp; exact HG.out))).mono ?_
 rintro e w10 (⟨p0, rfl, Rn, k⟩ | ⟨p0, ⟨vf, rfl, hf⟩, k⟩)
 rotate_left
 · exact ⟨rfl, Or.inl ⟨sPair, 44, (prW n 44 (F 44)), (by unfold bdW tlW; rw [if_neg (by omega), if_neg (by omega), if_neg (by omega)]; rw [if_neg (by decide), if_pos rfl]; rw [if_pos p0]), vf, rfl, hf.lw CC.size⟩, CC.trans1 k⟩
 skip
 replace R := Rn
 clear Rn
 replace BM := BM.chg k (by have := HS.out; simp; omega)
 replace BA := BA.chg k (by have := HS.out; simp; omega)
 replace CC := CC.trans1 k
 clear k
 have a109 : 109 ≤ n := by (by_cases hq : n < 44 + 65); exact absurd (show prW n 44 (F 44) = 3 from if_pos hq) (by rw [p0]; decide); omega
 have HP0 : Hid (prW n 44 (F 44) = 0) := p0
 clear p0
 have hcm : cmA F 44 = (.int .i64 ((F 44 : Nat) : Int) :: (yL 32 (fun j => F (44 + 1 + j)) ++ yL 32 (fun j => F (44 + 33 + j))) : List Value).toArray := rfl
 rw [hcm]
 clear hcm
 obtain ⟨x3, hx3⟩ : ∃ x, ((F 44 : Nat) : Int) = x := ⟨_, rfl⟩
 have HX3 : Hid (((F 44 : Nat) : Int) = x3) := hx3
 rw [hx3]
 clear hx3
 obtain ⟨H1, hH1⟩ : ∃ U, (fun j => F (44 + 1 + j)) = U := ⟨_, rfl⟩
 have HH1 : Hid ((fun j => F (44 + 1 + j)) = H1) := hH1
 rw [hH1]
 clear hH1
 obtain ⟨H2, hH2⟩ : ∃ U, (fun j => F (44 + 33 + j)) = U := ⟨_, rfl⟩
 have HH2 : Hid ((fun j => F (44 + 33 + j)) = H2) := hH2
 rw [hH2]
 clear hH2
 have BMo := BM
 go_wp2_with (first
   | (with_reducible refine store_row ?_ 27 (.tmp 22) (.tmp 21) ?_ mb 35 ({ ({ ({ (ms0 2 : Ms) with ses := U } : Ms) with fr := x1 } : Ms) with to := x2 }) ({ ({ ({ ({ (ms0 2 : Ms) with ses := U } : Ms) with fr := x1 } : Ms) with to := x2 } : Ms) with id := x3, hid := H1, bnd := H2 }) (.int .i64 x3 :: (yL 32 H1 ++ yL 32 H2)) ?_ ?_ BMo ?_ ?_ ?_ ?_ ?_
      · rfl
      · rfl
      · rfl
      · rfl
      · simp [yL]
      · rw [show (.int .i64 x3 :: (yL 32 H1 ++ yL 32 H2) : List Value).length = 65 from by simp [yL]]; exact cmInfoM
      · exact row_1 _ _ _
      · exact ms_set_pair _ _ _ _
      intro w11 BMn k))
 replace BM := BMn
 clear BMo BMn
 replace BA := BA.chg k (by have := HS.out; simp; omega)
 replace R := R.chg k (by have := HS.out; simp; omega)
 replace CC := CC.trans k (fun i hi => by simp at hi; subst hi; exact Or.inr HS.out.2.2.2.2)
 clear k
 refine (end_s r n c 109 _ _ _ (by omega) w11 R).mono ?_
 rintro e w12 (⟨hz, rfl, k⟩ | ⟨hz, ⟨vf, rfl, hf⟩, k⟩)
 rotate_left
 · exact ⟨rfl, Or.inl ⟨sTail, 109, 104, (by unfold bdW tlW; rw [if_neg (by omega), if_neg (by omega), if_neg (by omega)]; rw [if_neg (by decide), if_pos rfl]; rw [if_neg (fun q => q HP0.out)]; rw [if_pos (by omega)]), vf, rfl, hf.lw CC.size⟩, CC.trans1 k⟩
 replace BM := BM.chg k (by have := HS.out; simp; omega)
 replace BA := BA.chg k (by have := HS.out; simp; omega)
 replace CC := CC.trans1 k
 clear k
 have HZ : Hid (n = 109) := hz.symm
 clear hz
 obtain ⟨M, hM⟩ : ∃ M, M = ({ ({ ({ ({ (ms0 2 : Ms) with ses := U } : Ms) with fr := x1 } : Ms) with to := x2 } : Ms) with id := x3, hid := H1, bnd := H2 } : Ms) := ⟨_, rfl⟩
 have hM1 : M.list.oneCell' = true ∧ M.text.oneCell' = true := by rw [hM]; exact ⟨rfl, rfl⟩
 have HMM : Hid (M = ({ ({ ({ ({ (ms0 2 : Ms) with ses := U } : Ms) with fr := x1 } : Ms) with to := x2 } : Ms) with id := x3, hid := H1, bnd := H2 } : Ms)) := hM
 rw [← hM] at BM
 clear hM
 go_wp2_with (first
   | (refine wpList_load_row rfl 35 _ rfl mb rfl 35 _ (0, 0) _ BM Tryz.underlying35 rfl (by rw [msC_size]; exact msInfoW) ?_)
   | (refine store_w BA rfl 35 _ _ (msC M) rfl rfl rfl (by rw [msC_size]; exact msInfoW) (by rw [msC_size, msC_size]) (ms_oneC _ hM1.1 hM1.2) ?_; intro wE BAE kE))
 exact bodyPost_ret (results_cell_row Tryz.results86 _ _ ab 35 (msC M) (0, 0) _ rfl BAE Tryz.underlying35 rfl (by rw [msC_size]; exact msInfoW)) rfl ⟨Or.inr ⟨(by have hz := HZ.out; unfold bdW tlW; rw [if_neg (by omega), if_neg (by omega), if_neg (by omega)]; rw [if_neg (by decide), if_pos rfl]; rw [if_neg (fun q => q HP0.out)]; rw [if_neg (by omega)]), by rw [HMM.out]; unfold rdM; rw [if_neg (by decide), if_pos rfl]; unfold rd0; rw [HU.out, HX1.out, HX2.out, HX3.out, HH1.out, HH2.out]⟩, CC.trans kE (fun i hi => by simp at hi; subst hi; exact Or.inr HS.out.2.2.2.1)⟩
theorem message_k4 (r n c g o : Nat) (F : Nat → Nat) (b : Int) (s : ByteArray) (h10 : 10 ≤ n) (hn : n < c) (hn2 : c ≤ 9223372036854775807) (w : World) (h : Rd w r (.slice (some ⟨g, o, none⟩) n c) ((10 : Nat) : Int) s b) (hB : Bs w g o n F) (hgr : ¬ g = r) :
   Calls Tryz.prog 86 #[.pointer (some ⟨r, 0, none⟩), .int .i64 4] w fun e w' => MgQ w r n F 4 e w' := by
 have HB : Hid (Bs w g o n F) := hB
 have HG : Hid (¬ g = r) := hgr
 have HL : Hid (r < w.heap.size) := Blk.lt h
 have HR : Hid (Rd w r (.slice (some ⟨g, o, none⟩) n c) ((10 : Nat) : Int) s b) := h
 have HN : Hid (10 ≤ n ∧ n < c ∧ c ≤ 9223372036854775807) := ⟨h10, hn, hn2⟩
 have HW : Hid (∀ w' a b s s', a ≤ n → Rd w' r (.slice (some ⟨g, o, none⟩) n c) ((a : Nat) : Int) s b → Bs w' g o n F → Calls Tryz.prog 99 #[.pointer (some ⟨r, 0, none⟩), .string s'] w' fun e w'' => FdQ w' r (.slice (some ⟨g, o, none⟩) n c) n a 32 (.agg (yC 32 (fun j => F (a + j)))) s' e w'') := fun w' a b s s' ha h1 h2 => rword_s r n c g o a F b s s' ha hn hn2 w' h1 h2 hgr
 have HPt : Hid (∀ w' a b s s', a ≤ n → Rd w' r (.slice (some ⟨g, o, none⟩) n c) ((a : Nat) : Int) s b → Bs w' g o n F → Calls Tryz.prog 100 #[.pointer (some ⟨r, 0, none⟩), .string s'] w' fun e w'' => FdQ w' r (.slice (some ⟨g, o, none⟩) n c) n a 1 (.int .i64 ((F a : Nat) : Int)) s' e w'') := fun w' a b s s' ha h1 h2 => party_s r n c g o a F b s s' ha hn hn2 w' h1 h2 hgr
 have HPr : Hid (∀ w' a b s s', a ≤ n → Rd w' r (.slice (some ⟨g, o, none⟩) n c) ((a : Nat) : Int) s b → Bs w' g o n F → Calls Tryz.prog 101 #[.pointer (some ⟨r, 0, none⟩), .string s'] w' fun e w'' => PrQ w' r (.slice (some ⟨g, o, none⟩) n c) n a F s' e w'') := fun w' a b s s' ha h1 h2 => pair_s r n c g o a F b s s' ha hn hn2 w' h1 h2 hgr
 have HCd : Hid (∀ w' a b s, a ≤ n → Rd w' r (.slice (some ⟨g, o, none⟩) n c) ((a : Nat) : Int) s b → Bs w' g o n F → Calls Tryz.prog 104 #[.pointer (some ⟨r, 0, none⟩)] w' fun e w'' => CdQ w' r (.slice (some ⟨g, o, none⟩) n c) n a F e w'') := fun w' a b s ha h1 h2 => code_s r n c g o a F b s ha hn hn2 w' h1 h2 hgr
 have HSg : Hid (∀ w' a b s, a ≤ n → Rd w' r (.slice (some ⟨g, o, none⟩) n c) ((a : Nat) : Int) s b → Bs w' g o n F → Calls Tryz.prog 105 #[.pointer (some ⟨r, 0, none⟩)] w' fun e w'' => FdQ w' r (.slice (some ⟨g, o, none⟩) n c) n a 64 (.agg (yC 64 (fun j => F (a + j)))) sSig e w'') := fun w' a b s ha h1 h2 => sig_s r n c g o a F b s ha hn hn2 w' h1 h2 hgr
 clear h10 hn hn2 h hB hgr
 go_enter Tryz.func86, Tryz.ntmps86
 go_wp2_with (first
   | (refine store_w BM rfl 35 _ _ (msC (ms0 4)) rfl rfl rfl (by rw [msC_size]; exact msInfoW) (by rw [msC_size, msC_size]) (ms_oneC _ rfl rfl) ?_; intro w3 BM3 k3)
   | (have _h := BA; with_reducible refine alloc_w rfl 35 rfl (.agg (msC (ms0 0))) zeroMsg (msC (ms0 0)) rfl ?_; intro mb w2 hmb BM k2)
   | (with_reducible refine alloc_w rfl 35 rfl (.agg (msC (ms0 0))) zeroMsg (msC (ms0 0)) rfl ?_; intro ab w1 hab BA k1)
   | (with_reducible refine wpList_buildW ?_ 35 _ ?_ (msC (ms0 4)) ?_ ?_
      · rfl
      · rfl
      · exact builtMsg 4
      skip))
 have HS : Hid (r < ab ∧ r < mb ∧ ab < mb ∧ w.heap.size ≤ ab ∧ w.heap.size ≤ mb) := by have := HL.out; have := BA.lt; have := k1.size; exact ⟨by omega, by omega, by omega, by omega, by omega⟩
 have BA3 := (BA.chg k2 (by simp)).chg k3 (by have := HS.out; simp; omega)
 have CC : Chg w w3 [r] := (((k1.trans1 k2).wide (l := [r])).trans k3 (fun i hi => by simp at hi; subst hi; exact Or.inr HS.out.2.2.2.2))
 have R := ((HR.out.chg k1 (by simp)).chg k2 (by simp)).chg k3 (by have := HS.out; simp; omega)
 clear BA BM k1 k2 k3 hab hmb
 have BM := BM3
 have BA := BA3
 clear BM3 BA3
 have a10 : 10 ≤ n := HN.out.1
 refine (HW.out w3 10 _ _ sSess a10 R (HB.out.chg CC (by simp; exact HG.out))).mono ?_
 rintro e w4 (⟨a42, rfl, Rn, k⟩ | ⟨hx, ⟨vf, rfl, hf⟩, k⟩)
 rotate_left
 · exact ⟨rfl, Or.inl ⟨sSess, 10, 3, (by unfold bdW tlW; rw [if_pos (by omega)]), vf, rfl, hf.lw CC.size⟩, CC.trans1 k⟩
 skip
 replace R := Rn
 clear Rn
 replace BM := BM.chg k (by have := HS.out; simp; omega)
 replace BA := BA.chg k (by have := HS.out; simp; omega)
 replace CC := CC.trans1 k
 clear k
 obtain ⟨U, hU⟩ : ∃ U, (fun j => F (10 + j)) = U := ⟨_, rfl⟩
 have HU : Hid ((fun j => F (10 + j)) = U) := hU
 rw [hU]
 clear hU
 have BMo := BM
 go_wp2_with (first
   | (with_reducible refine store_row ?_ 24 (.tmp 10) (.tmp 9) ?_ mb 1 (ms0 4) ({ (ms0 4 : Ms) with ses := U }) (yL 32 U) ?_ ?_ BMo ?_ ?_ ?_ ?_ ?_
      · rfl
      · rfl
      · rfl
      · rfl
      · simp [yL]
      · rw [yL_len]; exact hashInfoW
      · exact yL_1 _ _
      · exact ms_set_ses _ _
      intro w5 BMn k))
 replace BM := BMn
 clear BMo BMn
 replace BA := BA.chg k (by have := HS.out; simp; omega)
 replace R := R.chg k (by have := HS.out; simp; omega)
 replace CC := CC.trans k (fun i hi => by simp at hi; subst hi; exact Or.inr HS.out.2.2.2.2)
 clear k
 refine (HPt.out w5 42 _ _ sFrm (by omega) R (HB.out.chg CC (by simp; exact HG.out))).mono ?_
 rintro e w6 (⟨a43, rfl, Rn, k⟩ | ⟨hx, ⟨vf, rfl, hf⟩, k⟩)
 rotate_left
 · exact ⟨rfl, Or.inl ⟨sFrm, 42, 3, (by unfold bdW tlW; rw [if_neg (by omega), if_pos (by omega)]), vf, rfl, hf.lw CC.size⟩, CC.trans1 k⟩
 skip
 replace R := Rn
 clear Rn
 replace BM := BM.chg k (by have := HS.out; simp; omega)
 replace BA := BA.chg k (by have := HS.out; simp; omega)
 replace CC := CC.trans1 k
 clear k
 obtain ⟨x1, hx1⟩ : ∃ x, ((F 42 : Nat) : Int) = x := ⟨_, rfl⟩
 have HX1 : Hid (((F 42 : Nat) : Int) = x1) := hx1
 rw [hx1]
 clear hx1
 have ff := BM.frozen 33
 have cf := ms_at BM 33 _ (ms_fr _)
 replace BM := (BM.setCell 33 (.int .i64 x1)).to (ms_set_fr _ x1)
 replace BA := BA.setOther (show ab ≠ mb by have := HS.out; omega) 33 (.int .i64 x1)
 have k : Chg w6 (w6.setCell ⟨mb, 33, none⟩ (.int .i64 x1)) [mb] := (Chg.refl w6 [mb]).setIn (by simp) 33 _
 replace R := R.chg k (by have := HS.out; simp; omega)
 replace CC := CC.trans k (fun i hi => by simp at hi; subst hi; exact Or.inr HS.out.2.2.2.2)
 clear k
 go_wp2_with fail
 generalize (w6.setCell ⟨mb, 33, none⟩ (.int .i64 x1)) = w7 at *
 clear ff cf
 refine (HPt.out w7 43 _ _ sToo (by omega) R (HB.out.chg CC (by simp; exact HG.out))).mono ?_
 rintro e w8 (⟨a44, rfl, Rn, k⟩ | ⟨hx, ⟨vf, rfl, hf⟩, k⟩)
 rotate_left
 · exact ⟨rfl, Or.inl ⟨sToo, 43, 3, (by unfold bdW tlW; rw [if_neg (by omega), if_neg (by omega), if_pos (by omega)]), vf, rfl, hf.lw CC.size⟩, CC.trans1 k⟩
 skip
 replace R := Rn
 clear Rn
 replace BM := BM.chg k (by have := HS.out; simp; omega)
 replace BA := BA.chg k (by have := HS.out; simp; omega)
 replace CC := CC.trans1 k
 clear k
 obtain ⟨x2, hx2⟩ : ∃ x, ((F 43 : Nat) : Int) = x := ⟨_, rfl⟩
 have HX2 : Hid (((F 43 : Nat) : Int) = x2) := hx2
 rw [hx2]
 clear hx2
 have ff := BM.frozen 34
 have cf := ms_at BM 34 _ (ms_to _)
 replace BM := (BM.setCell 34 (.int .i64 x2)).to (ms_set_to _ x2)
 replace BA := BA.setOther (show ab ≠ mb by have := HS.out; omega) 34 (.int .i64 x2)
 have k : Chg w8 (w8.setCell ⟨mb, 34, none⟩ (.int .i64 x2)) [mb] := (Chg.refl w8 [mb]).setIn (by simp) 34 _
 replace R := R.chg k (by have := HS.out; simp; omega)
 replace CC := CC.trans k (fun i hi => by simp at hi; subst hi; exact Or.inr HS.out.2.2.2.2)
 clear k
 go_wp2_with fail
 generalize (w8.setCell ⟨mb, 34, none⟩ (.int .i64 x2)) = w9 at *
 clear ff cf
 refine (HPr.out w9 44 _ _ sPair (by omega) R (HB.out.chg CC (by simp; exact HG.out))).mono ?_
 rintro e w10 (⟨p0, rfl, Rn, k⟩ | ⟨p0, ⟨vf, rfl, hf⟩, k⟩)
 rotate_left
 · exact ⟨rfl, Or.inl ⟨sPair, 44, (prW n 44 (F 44)), (by unfold bdW tlW; rw [if_neg (by omega), if_neg (by omega), if_neg (by omega)]; rw [if_neg (by decide), if_neg (by decide), if_pos rfl]; rw [if_pos p0]), vf, rfl, hf.lw CC.size⟩, CC.trans1 k⟩
 skip
 replace R := Rn
 clear Rn
 replace BM := BM.chg k (by have := HS.out; simp; omega)
 replace BA := BA.chg k (by have := HS.out; simp; omega)
 replace CC := CC.trans1 k
 clear k
 have a109 : 109 ≤ n := by (by_cases hq : n < 44 + 65); exact absurd (show prW n 44 (F 44) = 3 from if_pos hq) (by rw [p0]; decide); omega
 have HP0 : Hid (prW n 44 (F 44) = 0) := p0
 clear p0
 have hcm : cmA F 44 = (.int .i64 ((F 44 : Nat) : Int) :: (yL 32 (fun j => F (44 + 1 + j)) ++ yL 32 (fun j => F (44 + 33 + j))) : List Value).toArray := rfl
 rw [hcm]
 clear hcm
 obtain ⟨x3, hx3⟩ : ∃ x, ((F 44 : Nat) : Int) = x := ⟨_, rfl⟩
 have HX3 : Hid (((F 44 : Nat) : Int) = x3) := hx3
 rw [hx3]
 clear hx3
 obtain ⟨H1, hH1⟩ : ∃ U, (fun j => F (44 + 1 + j)) = U := ⟨_, rfl⟩
 have HH1 : Hid ((fun j => F (44 + 1 + j)) = H1) := hH1
 rw [hH1]
 clear hH1
 obtain ⟨H2, hH2⟩ : ∃ U, (fun j => F (44 + 33 + j)) = U := ⟨_, rfl⟩
 have HH2 : Hid ((fun j => F (44 + 33 + j)) = H2) := hH2
 rw [hH2]
 clear hH2
 have BMo := BM
 go_wp2_with (first
   | (with_reducible refine store_row ?_ 27 (.tmp 35) (.tmp 34) ?_ mb 35 ({ ({ ({ (ms0 4 : Ms) with ses := U } : Ms) with fr := x1 } : Ms) with to := x2 }) ({ ({ ({ ({ (ms0 4 : Ms) with ses := U } : Ms) with fr := x1 } : Ms) with to := x2 } : Ms) with id := x3, hid := H1, bnd := H2 }) (.int .i64 x3 :: (yL 32 H1 ++ yL 32 H2)) ?_ ?_ BMo ?_ ?_ ?_ ?_ ?_
      · rfl
      · rfl
      · rfl
      · rfl
      · simp [yL]
      · rw [show (.int .i64 x3 :: (yL 32 H1 ++ yL 32 H2) : List Value).length = 65 from by simp [yL]]; exact cmInfoM
      · exact row_1 _ _ _
      · exact ms_set_pair _ _ _ _
      intro w11 BMn k))
 replace BM := BMn
 clear BMo BMn
 replace BA := BA.chg k (by have := HS.out; simp; omega)
 replace R := R.chg k (by have := HS.out; simp; omega)
 replace CC := CC.trans k (fun i hi => by simp at hi; subst hi; exact Or.inr HS.out.2.2.2.2)
 clear k
 refine (HW.out w11 109 _ _ sBind (by omega) R (HB.out.chg CC (by simp; exact HG.out))).mono ?_
 rintro e w12 (⟨a141, rfl, Rn, k⟩ | ⟨hx, ⟨vf, rfl, hf⟩, k⟩)
 rotate_left
 · exact ⟨rfl, Or.inl ⟨sBind, 109, 3, (by unfold bdW tlW; rw [if_neg (by omega), if_neg (by omega), if_neg (by omega)]; rw [if_neg (by decide), if_neg (by decide), if_pos rfl]; rw [if_neg (fun q => q HP0.out)]; rw [if_pos (by omega)]), vf, rfl, hf.lw CC.size⟩, CC.trans1 k⟩
 skip
 replace R := Rn
 clear Rn
 replace BM := BM.chg k (by have := HS.out; simp; omega)
 replace BA := BA.chg k (by have := HS.out; simp; omega)
 replace CC := CC.trans1 k
 clear k
 obtain ⟨U109, hU⟩ : ∃ U, (fun j => F (109 + j)) = U := ⟨_, rfl⟩
 have HU109 : Hid ((fun j => F (109 + j)) = U109) := hU
 rw [hU]
 clear hU
 have BMo := BM
 go_wp2_with (first
   | (with_reducible refine store_row ?_ 24 (.tmp 38) (.tmp 37) ?_ mb 102 ({ ({ ({ ({ (ms0 4 : Ms) with ses := U } : Ms) with fr := x1 } : Ms) with to := x2 } : Ms) with id := x3, hid := H1, bnd := H2 }) ({ ({ ({ ({ ({ (ms0 4 : Ms) with ses := U } : Ms) with fr := x1 } : Ms) with to := x2 } : Ms) with id := x3, hid := H1, bnd := H2 } : Ms) with bind := U109 }) (yL 32 U109) ?_ ?_ BMo ?_ ?_ ?_ ?_ ?_
      · rfl
      · rfl
      · rfl
      · rfl
      · simp [yL]
      · rw [yL_len]; exact hashInfoW
      · exact yL_1 _ _
      · exact ms_set_bind _ _
      intro w13 BMn k))
 replace BM := BMn
 clear BMo BMn
 replace BA := BA.chg k (by have := HS.out; simp; omega)
 replace R := R.chg k (by have := HS.out; simp; omega)
 replace CC := CC.trans k (fun i hi => by simp at hi; subst hi; exact Or.inr HS.out.2.2.2.2)
 clear k
 refine (HW.out w13 141 _ _ sShare (by omega) R (HB.out.chg CC (by simp; exact HG.out))).mono ?_
 rintro e w14 (⟨a173, rfl, Rn, k⟩ | ⟨hx, ⟨vf, rfl, hf⟩, k⟩)
 rotate_left
 · exact ⟨rfl, Or.inl ⟨sShare, 141, 3, (by unfold bdW tlW; rw [if_neg (by omega), if_neg (by omega), if_neg (by omega)]; rw [if_neg (by decide), if_neg (by decide), if_pos rfl]; rw [if_neg (fun q => q HP0.out)]; rw [if_neg (by omega)]; rw [if_pos (by omega)]), vf, rfl, hf.lw CC.size⟩, CC.trans1 k⟩
 skip
 replace R := Rn
 clear Rn
 replace BM := BM.chg k (by have := HS.out; simp; omega)
 replace BA := BA.chg k (by have := HS.out; simp; omega)
 replace CC := CC.trans1 k
 clear k
 obtain ⟨U141, hU⟩ : ∃ U, (fun j => F (141 + j)) = U := ⟨_, rfl⟩
 have HU141 : Hid ((fun j => F (141 + j)) = U141) := hU
 rw [hU]
 clear hU
 have BMo := BM
 go_wp2_with (first
   | (with_reducible refine store_row ?_ 30 (.tmp 41) (.tmp 40) ?_ mb 134 ({ ({ ({ ({ ({ (ms0 4 : Ms) with ses := U } : Ms) with fr := x1 } : Ms) with to := x2 } : Ms) with id := x3, hid := H1, bnd := H2 } : Ms) with bind := U109 }) ({ ({ ({ ({ ({ ({ (ms0 4 : Ms) with ses := U } : Ms) with fr := x1 } : Ms) with to := x2 } : Ms) with id := x3, hid := H1, bnd := H2 } : Ms) with bind := U109 } : Ms) with share := U141 }) (yL 32 U141) ?_ ?_ BMo ?_ ?_ ?_ ?_ ?_
      · rfl
      · rfl
      · rfl
      · rfl
      · simp [yL]
      · rw [yL_len]; exact scInfoM
      · exact yL_1 _ _
      · exact ms_set_share _ _
      intro w15 BMn k))
 replace BM := BMn
 clear BMo BMn
 replace BA := BA.chg k (by have := HS.out; simp; omega)
 replace R := R.chg k (by have := HS.out; simp; omega)
 replace CC := CC.trans k (fun i hi => by simp at hi; subst hi; exact Or.inr HS.out.2.2.2.2)
 clear k
 refine (end_s r n c 173 _ _ _ (by omega) w15 R).mono ?_
 rintro e w16 (⟨hz, rfl, k⟩ | ⟨hz, ⟨vf, rfl, hf⟩, k⟩)
 rotate_left
 · exact ⟨rfl, Or.inl ⟨sTail, 173, 104, (by unfold bdW tlW; rw [if_neg (by omega), if_neg (by omega), if_neg (by omega)]; rw [if_neg (by decide), if_neg (by decide), if_pos rfl]; rw [if_neg (fun q => q HP0.out)]; rw [if_neg (by omega)]; rw [if_neg (by omega)]; rw [if_pos (by omega)]), vf, rfl, hf.lw CC.size⟩, CC.trans1 k⟩
 replace BM := BM.chg k (by have := HS.out; simp; omega)
 replace BA := BA.chg k (by have := HS.out; simp; omega)
 replace CC := CC.trans1 k
 clear k
 have HZ : Hid (n = 173) := hz.symm
 clear hz
 obtain ⟨M, hM⟩ : ∃ M, M = ({ ({ ({ ({ ({ ({ (ms0 4 : Ms) with ses := U } : Ms) with fr := x1 } : Ms) with to := x2 } : Ms) with id := x3, hid := H1, bnd := H2 } : Ms) with bind := U109 } : Ms) with share := U141 } : Ms) := ⟨_, rfl⟩
 have hM1 : M.list.oneCell' = true ∧ M.text.oneCell' = true := by rw [hM]; exact ⟨rfl, rfl⟩
 have HMM : Hid (M = ({ ({ ({ ({ ({ ({ (ms0 4 : Ms) with ses := U } : Ms) with fr := x1 } : Ms) with to := x2 } : Ms) with id := x3, hid := H1, bnd := H2 } : Ms) with bind := U109 } : Ms) with share := U141 } : Ms)) := hM
 rw [← hM] at BM
 clear hM
 go_wp2_with (first
   | (refine wpList_load_row rfl 35 _ rfl mb rfl 35 _ (0, 0) _ BM Tryz.underlying35 rfl (by rw [msC_size]; exact msInfoW) ?_)
   | (refine store_w BA rfl 35 _ _ (msC M) rfl rfl rfl (by rw [msC_size]; exact msInfoW) (by rw [msC_size, msC_size]) (ms_oneC _ hM1.1 hM1.2) ?_; intro wE BAE kE))
 exact bodyPost_ret (results_cell_row Tryz.results86 _ _ ab 35 (msC M) (0, 0) _ rfl BAE Tryz.underlying35 rfl (by rw [msC_size]; exact msInfoW)) rfl ⟨Or.inr ⟨(by have hz := HZ.out; unfold bdW tlW; rw [if_neg (by omega), if_neg (by omega), if_neg (by omega)]; rw [if_neg (by decide), if_neg (by decide), if_pos rfl]; rw [if_neg (fun q => q HP0.out)]; rw [if_neg (by omega)]; rw [if_neg (by omega)]; rw [if_neg (by omega)]), by rw [HMM.out]; unfold rdM; rw [if_neg (by decide), if_neg (by decide), if_pos rfl]; unfold rd0; rw [HU.out, HX1.out, HX2.out, HX3.out, HH1.out, HH2.out, HU109.out, HU141.out]⟩, CC.trans kE (fun i hi => by simp at hi; subst hi; exact Or.inr HS.out.2.2.2.1)⟩
theorem message_k5 (r n c g o : Nat) (F : Nat → Nat) (b : Int) (s : ByteArray) (h10 : 10 ≤ n) (hn : n < c) (hn2 : c ≤ 9223372036854775807) (w : World) (h : Rd w r (.slice (some ⟨g, o, none⟩) n c) ((10 : Nat) : Int) s b) (hB : Bs w g o n F) (hgr : ¬ g = r) :
   Calls Tryz.prog 86 #[.pointer (some ⟨r, 0, none⟩), .int .i64 5] w fun e w' => MgQ w r n F 5 e w' := by
 have HB : Hid (Bs w g o n F) := hB
 have HG : Hid (¬ g = r) := hgr
 have HL : Hid (r < w.heap.size) := Blk.lt h
 have HR : Hid (Rd w r (.slice (some ⟨g, o, none⟩) n c) ((10 : Nat) : Int) s b) := h
 have HN : Hid (10 ≤ n ∧ n < c ∧ c ≤ 9223372036854775807) := ⟨h10, hn, hn2⟩
 have HW : Hid (∀ w' a b s s', a ≤ n → Rd w' r (.slice (some ⟨g, o, none⟩) n c) ((a : Nat) : Int) s b → Bs w' g o n F → Calls Tryz.prog 99 #[.pointer (some ⟨r, 0, none⟩), .string s'] w' fun e w'' => FdQ w' r (.slice (some ⟨g, o, none⟩) n c) n a 32 (.agg (yC 32 (fun j => F (a + j)))) s' e w'') := fun w' a b s s' ha h1 h2 => rword_s r n c g o a F b s s' ha hn hn2 w' h1 h2 hgr
 have HPt : Hid (∀ w' a b s s', a ≤ n → Rd w' r (.slice (some ⟨g, o, none⟩) n c) ((a : Nat) : Int) s b → Bs w' g o n F → Calls Tryz.prog 100 #[.pointer (some ⟨r, 0, none⟩), .string s'] w' fun e w'' => FdQ w' r (.slice (some ⟨g, o, none⟩) n c) n a 1 (.int .i64 ((F a : Nat) : Int)) s' e w'') := fun w' a b s s' ha h1 h2 => party_s r n c g o a F b s s' ha hn hn2 w' h1 h2 hgr
 have HPr : Hid (∀ w' a b s s', a ≤ n → Rd w' r (.slice (some ⟨g, o, none⟩) n c) ((a : Nat) : Int) s b → Bs w' g o n F → Calls Tryz.prog 101 #[.pointer (some ⟨r, 0, none⟩), .string s'] w' fun e w'' => PrQ w' r (.slice (some ⟨g, o, none⟩) n c) n a F s' e w'') := fun w' a b s s' ha h1 h2 => pair_s r n c g o a F b s s' ha hn hn2 w' h1 h2 hgr
 have HCd : Hid (∀ w' a b s, a ≤ n → Rd w' r (.slice (some ⟨g, o, none⟩) n c) ((a : Nat) : Int) s b → Bs w' g o n F → Calls Tryz.prog 104 #[.pointer (some ⟨r, 0, none⟩)] w' fun e w'' => CdQ w' r (.slice (some ⟨g, o, none⟩) n c) n a F e w'') := fun w' a b s ha h1 h2 => code_s r n c g o a F b s ha hn hn2 w' h1 h2 hgr
 have HSg : Hid (∀ w' a b s, a ≤ n → Rd w' r (.slice (some ⟨g, o, none⟩) n c) ((a : Nat) : Int) s b → Bs w' g o n F → Calls Tryz.prog 105 #[.pointer (some ⟨r, 0, none⟩)] w' fun e w'' => FdQ w' r (.slice (some ⟨g, o, none⟩) n c) n a 64 (.agg (yC 64 (fun j => F (a + j)))) sSig e w'') := fun w' a b s ha h1 h2 => sig_s r n c g o a F b s ha hn hn2 w' h1 h2 hgr
 clear h10 hn hn2 h hB hgr
 go_enter Tryz.func86, Tryz.ntmps86
 go_wp2_with (first
   | (refine store_w BM rfl 35 _ _ (msC (ms0 5)) rfl rfl rfl (by rw [msC_size]; exact msInfoW) (by rw [msC_size, msC_size]) (ms_oneC _ rfl rfl) ?_; intro w3 BM3 k3)
   | (have _h := BA; with_reducible refine alloc_w rfl 35 rfl (.agg (msC (ms0 0))) zeroMsg (msC (ms0 0)) rfl ?_; intro mb w2 hmb BM k2)
   | (with_reducible refine alloc_w rfl 35 rfl (.agg (msC (ms0 0))) zeroMsg (msC (ms0 0)) rfl ?_; intro ab w1 hab BA k1)
   | (with_reducible refine wpList_buildW ?_ 35 _ ?_ (msC (ms0 5)) ?_ ?_
      · rfl
      · rfl
      · exact builtMsg 5
      skip))
 have HS : Hid (r < ab ∧ r < mb ∧ ab < mb ∧ w.heap.size ≤ ab ∧ w.heap.size ≤ mb) := by have := HL.out; have := BA.lt; have := k1.size; exact ⟨by omega, by omega, by omega, by omega, by omega⟩
 have BA3 := (BA.chg k2 (by simp)).chg k3 (by have := HS.out; simp; omega)
 have CC : Chg w w3 [r] := (((k1.trans1 k2).wide (l := [r])).trans k3 (fun i hi => by simp at hi; subst hi; exact Or.inr HS.out.2.2.2.2))
 have R := ((HR.out.chg k1 (by simp)).chg k2 (by simp)).chg k3 (by have := HS.out; simp; omega)
 clear BA BM k1 k2 k3 hab hmb
 have BM := BM3
 have BA := BA3
 clear BM3 BA3
 have a10 : 10 ≤ n := HN.out.1
 refine (HW.out w3 10 _ _ sSess a10 R (HB.out.chg CC (by simp; exact HG.out))).mono ?_
 rintro e w4 (⟨a42, rfl, Rn, k⟩ | ⟨hx, ⟨vf, rfl, hf⟩, k⟩)
 rotate_left
 · exact ⟨rfl, Or.inl ⟨sSess, 10, 3, (by unfold bdW tlW; rw [if_pos (by omega)]), vf, rfl, hf.lw CC.size⟩, CC.trans1 k⟩
 skip
 replace R := Rn
 clear Rn
 replace BM := BM.chg k (by have := HS.out; simp; omega)
 replace BA := BA.chg k (by have := HS.out; simp; omega)
 replace CC := CC.trans1 k
 clear k
 obtain ⟨U, hU⟩ : ∃ U, (fun j => F (10 + j)) = U := ⟨_, rfl⟩
 have HU : Hid ((fun j => F (10 + j)) = U) := hU
 rw [hU]
 clear hU
 have BMo := BM
 go_wp2_with (first
   | (with_reducible refine store_row ?_ 24 (.tmp 10) (.tmp 9) ?_ mb 1 (ms0 5) ({ (ms0 5 : Ms) with ses := U }) (yL 32 U) ?_ ?_ BMo ?_ ?_ ?_ ?_ ?_
      · rfl
      · rfl
      · rfl
      · rfl
      · simp [yL]
      · rw [yL_len]; exact hashInfoW
      · exact yL_1 _ _
      · exact ms_set_ses _ _
      intro w5 BMn k))
 replace BM := BMn
 clear BMo BMn
 replace BA := BA.chg k (by have := HS.out; simp; omega)
 replace R := R.chg k (by have := HS.out; simp; omega)
 replace CC := CC.trans k (fun i hi => by simp at hi; subst hi; exact Or.inr HS.out.2.2.2.2)
 clear k
 refine (HPt.out w5 42 _ _ sFrm (by omega) R (HB.out.chg CC (by simp; exact HG.out))).mono ?_
 rintro e w6 (⟨a43, rfl, Rn, k⟩ | ⟨hx, ⟨vf, rfl, hf⟩, k⟩)
 rotate_left
 · exact ⟨rfl, Or.inl ⟨sFrm, 42, 3, (by unfold bdW tlW; rw [if_neg (by omega), if_pos (by omega)]), vf, rfl, hf.lw CC.size⟩, CC.trans1 k⟩
 skip
 replace R := Rn
 clear Rn
 replace BM := BM.chg k (by have := HS.out; simp; omega)
 replace BA := BA.chg k (by have := HS.out; simp; omega)
 replace CC := CC.trans1 k
 clear k
 obtain ⟨x1, hx1⟩ : ∃ x, ((F 42 : Nat) : Int) = x := ⟨_, rfl⟩
 have HX1 : Hid (((F 42 : Nat) : Int) = x1) := hx1
 rw [hx1]
 clear hx1
 have ff := BM.frozen 33
 have cf := ms_at BM 33 _ (ms_fr _)
 replace BM := (BM.setCell 33 (.int .i64 x1)).to (ms_set_fr _ x1)
 replace BA := BA.setOther (show ab ≠ mb by have := HS.out; omega) 33 (.int .i64 x1)
 have k : Chg w6 (w6.setCell ⟨mb, 33, none⟩ (.int .i64 x1)) [mb] := (Chg.refl w6 [mb]).setIn (by simp) 33 _
 replace R := R.chg k (by have := HS.out; simp; omega)
 replace CC := CC.trans k (fun i hi => by simp at hi; subst hi; exact Or.inr HS.out.2.2.2.2)
 clear k
 go_wp2_with fail
 generalize (w6.setCell ⟨mb, 33, none⟩ (.int .i64 x1)) = w7 at *
 clear ff cf
 refine (HPt.out w7 43 _ _ sToo (by omega) R (HB.out.chg CC (by simp; exact HG.out))).mono ?_
 rintro e w8 (⟨a44, rfl, Rn, k⟩ | ⟨hx, ⟨vf, rfl, hf⟩, k⟩)
 rotate_left
 · exact ⟨rfl, Or.inl ⟨sToo, 43, 3, (by unfold bdW tlW; rw [if_neg (by omega), if_neg (by omega), if_pos (by omega)]), vf, rfl, hf.lw CC.size⟩, CC.trans1 k⟩
 skip
 replace R := Rn
 clear Rn
 replace BM := BM.chg k (by have := HS.out; simp; omega)
 replace BA := BA.chg k (by have := HS.out; simp; omega)
 replace CC := CC.trans1 k
 clear k
 obtain ⟨x2, hx2⟩ : ∃ x, ((F 43 : Nat) : Int) = x := ⟨_, rfl⟩
 have HX2 : Hid (((F 43 : Nat) : Int) = x2) := hx2
 rw [hx2]
 clear hx2
 have ff := BM.frozen 34
 have cf := ms_at BM 34 _ (ms_to _)
 replace BM := (BM.setCell 34 (.int .i64 x2)).to (ms_set_to _ x2)
 replace BA := BA.setOther (show ab ≠ mb by have := HS.out; omega) 34 (.int .i64 x2)
 have k : Chg w8 (w8.setCell ⟨mb, 34, none⟩ (.int .i64 x2)) [mb] := (Chg.refl w8 [mb]).setIn (by simp) 34 _
 replace R := R.chg k (by have := HS.out; simp; omega)
 replace CC := CC.trans k (fun i hi => by simp at hi; subst hi; exact Or.inr HS.out.2.2.2.2)
 clear k
 go_wp2_with fail
 generalize (w8.setCell ⟨mb, 34, none⟩ (.int .i64 x2)) = w9 at *
 clear ff cf
 refine (HCd.out w9 44 _ _ (by omega) R (HB.out.chg CC (by simp; exact HG.out))).mono ?_
 rintro e w10 (⟨a46, h0, rfl, Rn, k⟩ | ⟨hx, ⟨vf, rfl, hf⟩, k⟩ | ⟨a46, h0, ⟨vf, rfl, hf⟩, k⟩)
 rotate_left
 · exact ⟨rfl, Or.inl ⟨sCode, 44, 3, (by unfold bdW tlW; rw [if_neg (by omega), if_neg (by omega), if_neg (by omega)]; rw [if_neg (by decide), if_neg (by decide), if_neg (by decide), if_pos rfl]; rw [if_pos (by omega)]), vf, rfl, hf.lw CC.size⟩, CC.trans1 k⟩
 · exact ⟨rfl, Or.inl ⟨sCode, 44, 1, (by unfold bdW tlW; rw [if_neg (by omega), if_neg (by omega), if_neg (by omega)]; rw [if_neg (by decide), if_neg (by decide), if_neg (by decide), if_pos rfl]; rw [if_neg (by omega), if_pos h0]), vf, rfl, hf.lw CC.size⟩, CC.trans1 k⟩
 skip
 replace R := Rn
 clear Rn
 replace BM := BM.chg k (by have := HS.out; simp; omega)
 replace BA := BA.chg k (by have := HS.out; simp; omega)
 replace CC := CC.trans1 k
 clear k
 have HP0 : Hid (nm F 44 2 ≠ 0) := h0
 clear h0
 obtain ⟨x3, hx3⟩ : ∃ x, ((nm F 44 2 : Nat) : Int) = x := ⟨_, rfl⟩
 have HX3 : Hid (((nm F 44 2 : Nat) : Int) = x3) := hx3
 rw [hx3]
 clear hx3
 have ff := BM.frozen 230
 have cf := ms_at BM 230 _ (ms_code _)
 replace BM := (BM.setCell 230 (.int .i64 x3)).to (ms_set_code _ x3)
 replace BA := BA.setOther (show ab ≠ mb by have := HS.out; omega) 230 (.int .i64 x3)
 have k : Chg w10 (w10.setCell ⟨mb, 230, none⟩ (.int .i64 x3)) [mb] := (Chg.refl w10 [mb]).setIn (by simp) 230 _
 replace R := R.chg k (by have := HS.out; simp; omega)
 replace CC := CC.trans k (fun i hi => by simp at hi; subst hi; exact Or.inr HS.out.2.2.2.2)
 clear k
 go_wp2_with fail
 generalize (w10.setCell ⟨mb, 230, none⟩ (.int .i64 x3)) = w11 at *
 clear ff cf
 refine (end_s r n c 46 _ _ _ (by omega) w11 R).mono ?_
 rintro e w12 (⟨hz, rfl, k⟩ | ⟨hz, ⟨vf, rfl, hf⟩, k⟩)
 rotate_left
 · exact ⟨rfl, Or.inl ⟨sTail, 46, 104, (by unfold bdW tlW; rw [if_neg (by omega), if_neg (by omega), if_neg (by omega)]; rw [if_neg (by decide), if_neg (by decide), if_neg (by decide), if_pos rfl]; rw [if_neg (by omega), if_neg HP0.out]; rw [if_pos (by omega)]), vf, rfl, hf.lw CC.size⟩, CC.trans1 k⟩
 replace BM := BM.chg k (by have := HS.out; simp; omega)
 replace BA := BA.chg k (by have := HS.out; simp; omega)
 replace CC := CC.trans1 k
 clear k
 have HZ : Hid (n = 46) := hz.symm
 clear hz
 obtain ⟨M, hM⟩ : ∃ M, M = ({ ({ ({ ({ (ms0 5 : Ms) with ses := U } : Ms) with fr := x1 } : Ms) with to := x2 } : Ms) with code := x3 } : Ms) := ⟨_, rfl⟩
 have hM1 : M.list.oneCell' = true ∧ M.text.oneCell' = true := by rw [hM]; exact ⟨rfl, rfl⟩
 have HMM : Hid (M = ({ ({ ({ ({ (ms0 5 : Ms) with ses := U } : Ms) with fr := x1 } : Ms) with to := x2 } : Ms) with code := x3 } : Ms)) := hM
 rw [← hM] at BM
 clear hM
 go_wp2_with (first
   | (refine wpList_load_row rfl 35 _ rfl mb rfl 35 _ (0, 0) _ BM Tryz.underlying35 rfl (by rw [msC_size]; exact msInfoW) ?_)
   | (refine store_w BA rfl 35 _ _ (msC M) rfl rfl rfl (by rw [msC_size]; exact msInfoW) (by rw [msC_size, msC_size]) (ms_oneC _ hM1.1 hM1.2) ?_; intro wE BAE kE))
 exact bodyPost_ret (results_cell_row Tryz.results86 _ _ ab 35 (msC M) (0, 0) _ rfl BAE Tryz.underlying35 rfl (by rw [msC_size]; exact msInfoW)) rfl ⟨Or.inr ⟨(by have hz := HZ.out; unfold bdW tlW; rw [if_neg (by omega), if_neg (by omega), if_neg (by omega)]; rw [if_neg (by decide), if_neg (by decide), if_neg (by decide), if_pos rfl]; rw [if_neg (by omega), if_neg HP0.out]; rw [if_neg (by omega)]), by rw [HMM.out]; unfold rdM; rw [if_neg (by decide), if_neg (by decide), if_neg (by decide), if_pos rfl]; unfold rd0; rw [HU.out, HX1.out, HX2.out, HX3.out]⟩, CC.trans kE (fun i hi => by simp at hi; subst hi; exact Or.inr HS.out.2.2.2.1)⟩
theorem message_k6 (r n c g o : Nat) (F : Nat → Nat) (b : Int) (s : ByteArray) (h10 : 10 ≤ n) (hn : n < c) (hn2 : c ≤ 9223372036854775807) (w : World) (h : Rd w r (.slice (some ⟨g, o, none⟩) n c) ((10 : Nat) : Int) s b) (hB : Bs w g o n F) (hgr : ¬ g = r) :
   Calls Tryz.prog 86 #[.pointer (some ⟨r, 0, none⟩), .int .i64 6] w fun e w' => MgQ w r n F 6 e w' := by
 have HB : Hid (Bs w g o n F) := hB
 have HG : Hid (¬ g = r) := hgr
 have HL : Hid (r < w.heap.size) := Blk.lt h
 have HR : Hid (Rd w r (.slice (some ⟨g, o, none⟩) n c) ((10 : Nat) : Int) s b) := h
 have HN : Hid (10 ≤ n ∧ n < c ∧ c ≤ 9223372036854775807) := ⟨h10, hn, hn2⟩
 have HW : Hid (∀ w' a b s s', a ≤ n → Rd w' r (.slice (some ⟨g, o, none⟩) n c) ((a : Nat) : Int) s b → Bs w' g o n F → Calls Tryz.prog 99 #[.pointer (some ⟨r, 0, none⟩), .string s'] w' fun e w'' => FdQ w' r (.slice (some ⟨g, o, none⟩) n c) n a 32 (.agg (yC 32 (fun j => F (a + j)))) s' e w'') := fun w' a b s s' ha h1 h2 => rword_s r n c g o a F b s s' ha hn hn2 w' h1 h2 hgr
 have HPt : Hid (∀ w' a b s s', a ≤ n → Rd w' r (.slice (some ⟨g, o, none⟩) n c) ((a : Nat) : Int) s b → Bs w' g o n F → Calls Tryz.prog 100 #[.pointer (some ⟨r, 0, none⟩), .string s'] w' fun e w'' => FdQ w' r (.slice (some ⟨g, o, none⟩) n c) n a 1 (.int .i64 ((F a : Nat) : Int)) s' e w'') := fun w' a b s s' ha h1 h2 => party_s r n c g o a F b s s' ha hn hn2 w' h1 h2 hgr
 have HPr : Hid (∀ w' a b s s', a ≤ n → Rd w' r (.slice (some ⟨g, o, none⟩) n c) ((a : Nat) : Int) s b → Bs w' g o n F → Calls Tryz.prog 101 #[.pointer (some ⟨r, 0, none⟩), .string s'] w' fun e w'' => PrQ w' r (.slice (some ⟨g, o, none⟩) n c) n a F s' e w'') := fun w' a b s s' ha h1 h2 => pair_s r n c g o a F b s s' ha hn hn2 w' h1 h2 hgr
 have HCd : Hid (∀ w' a b s, a ≤ n → Rd w' r (.slice (some ⟨g, o, none⟩) n c) ((a : Nat) : Int) s b → Bs w' g o n F → Calls Tryz.prog 104 #[.pointer (some ⟨r, 0, none⟩)] w' fun e w'' => CdQ w' r (.slice (some ⟨g, o, none⟩) n c) n a F e w'') := fun w' a b s ha h1 h2 => code_s r n c g o a F b s ha hn hn2 w' h1 h2 hgr
 have HSg : Hid (∀ w' a b s, a ≤ n → Rd w' r (.slice (some ⟨g, o, none⟩) n c) ((a : Nat) : Int) s b → Bs w' g o n F → Calls Tryz.prog 105 #[.pointer (some ⟨r, 0, none⟩)] w' fun e w'' => FdQ w' r (.slice (some ⟨g, o, none⟩) n c) n a 64 (.agg (yC 64 (fun j => F (a + j)))) sSig e w'') := fun w' a b s ha h1 h2 => sig_s r n c g o a F b s ha hn hn2 w' h1 h2 hgr
 clear h10 hn hn2 h hB hgr
 go_enter Tryz.func86, Tryz.ntmps86
 go_wp2_with (first
   | (refine store_w BM rfl 35 _ _ (msC (ms0 6)) rfl rfl rfl (by rw [msC_size]; exact msInfoW) (by rw [msC_size, msC_size]) (ms_oneC _ rfl rfl) ?_; intro w3 BM3 k3)
   | (have _h := BA; with_reducible refine alloc_w rfl 35 rfl (.agg (msC (ms0 0))) zeroMsg (msC (ms0 0)) rfl ?_; intro mb w2 hmb BM k2)
   | (with_reducible refine alloc_w rfl 35 rfl (.agg (msC (ms0 0))) zeroMsg (msC (ms0 0)) rfl ?_; intro ab w1 hab BA k1)
   | (with_reducible refine wpList_buildW ?_ 35 _ ?_ (msC (ms0 6)) ?_ ?_
      · rfl
      · rfl
      · exact builtMsg 6
      skip))
 have HS : Hid (r < ab ∧ r < mb ∧ ab < mb ∧ w.heap.size ≤ ab ∧ w.heap.size ≤ mb) := by have := HL.out; have := BA.lt; have := k1.size; exact ⟨by omega, by omega, by omega, by omega, by omega⟩
 have BA3 := (BA.chg k2 (by simp)).chg k3 (by have := HS.out; simp; omega)
 have CC : Chg w w3 [r] := (((k1.trans1 k2).wide (l := [r])).trans k3 (fun i hi => by simp at hi; subst hi; exact Or.inr HS.out.2.2.2.2))
 have R := ((HR.out.chg k1 (by simp)).chg k2 (by simp)).chg k3 (by have := HS.out; simp; omega)
 clear BA BM k1 k2 k3 hab hmb
 have BM := BM3
 have BA := BA3
 clear BM3 BA3
 have a10 : 10 ≤ n := HN.out.1
 refine (HW.out w3 10 _ _ sSess a10 R (HB.out.chg CC (by simp; exact HG.out))).mono ?_
 rintro e w4 (⟨a42, rfl, Rn, k⟩ | ⟨hx, ⟨vf, rfl, hf⟩, k⟩)
 rotate_left
 · exact ⟨rfl, Or.inl ⟨sSess, 10, 3, (by unfold bdW tlW; rw [if_pos (by omega)]), vf, rfl, hf.lw CC.size⟩, CC.trans1 k⟩
 skip
 replace R := Rn
 clear Rn
 replace BM := BM.chg k (by have := HS.out; simp; omega)
 replace BA := BA.chg k (by have := HS.out; simp; omega)
 replace CC := CC.trans1 k
 clear k
 obtain ⟨U, hU⟩ : ∃ U, (fun j => F (10 + j)) = U := ⟨_, rfl⟩
 have HU : Hid ((fun j => F (10 + j)) = U) := hU
 rw [hU]
 clear hU
 have BMo := BM
 go_wp2_with (first
   | (with_reducible refine store_row ?_ 24 (.tmp 10) (.tmp 9) ?_ mb 1 (ms0 6) ({ (ms0 6 : Ms) with ses := U }) (yL 32 U) ?_ ?_ BMo ?_ ?_ ?_ ?_ ?_
      · rfl
      · rfl
      · rfl
      · rfl
      · simp [yL]
      · rw [yL_len]; exact hashInfoW
      · exact yL_1 _ _
      · exact ms_set_ses _ _
      intro w5 BMn k))
 replace BM := BMn
 clear BMo BMn
 replace BA := BA.chg k (by have := HS.out; simp; omega)
 replace R := R.chg k (by have := HS.out; simp; omega)
 replace CC := CC.trans k (fun i hi => by simp at hi; subst hi; exact Or.inr HS.out.2.2.2.2)
 clear k
 refine (HPt.out w5 42 _ _ sFrm (by omega) R (HB.out.chg CC (by simp; exact HG.out))).mono ?_
 rintro e w6 (⟨a43, rfl, Rn, k⟩ | ⟨hx, ⟨vf, rfl, hf⟩, k⟩)
 rotate_left
 · exact ⟨rfl, Or.inl ⟨sFrm, 42, 3, (by unfold bdW tlW; rw [if_neg (by omega), if_pos (by omega)]), vf, rfl, hf.lw CC.size⟩, CC.trans1 k⟩
 skip
 replace R := Rn
 clear Rn
 replace BM := BM.chg k (by have := HS.out; simp; omega)
 replace BA := BA.chg k (by have := HS.out; simp; omega)
 replace CC := CC.trans1 k
 clear k
 obtain ⟨x1, hx1⟩ : ∃ x, ((F 42 : Nat) : Int) = x := ⟨_, rfl⟩
 have HX1 : Hid (((F 42 : Nat) : Int) = x1) := hx1
 rw [hx1]
 clear hx1
 have ff := BM.frozen 33
 have cf := ms_at BM 33 _ (ms_fr _)
 replace BM := (BM.setCell 33 (.int .i64 x1)).to (ms_set_fr _ x1)
 replace BA := BA.setOther (show ab ≠ mb by have := HS.out; omega) 33 (.int .i64 x1)
 have k : Chg w6 (w6.setCell ⟨mb, 33, none⟩ (.int .i64 x1)) [mb] := (Chg.refl w6 [mb]).setIn (by simp) 33 _
 replace R := R.chg k (by have := HS.out; simp; omega)
 replace CC := CC.trans k (fun i hi => by simp at hi; subst hi; exact Or.inr HS.out.2.2.2.2)
 clear k
 go_wp2_with fail
 generalize (w6.setCell ⟨mb, 33, none⟩ (.int .i64 x1)) = w7 at *
 clear ff cf
 refine (HPt.out w7 43 _ _ sToo (by omega) R (HB.out.chg CC (by simp; exact HG.out))).mono ?_
 rintro e w8 (⟨a44, rfl, Rn, k⟩ | ⟨hx, ⟨vf, rfl, hf⟩, k⟩)
 rotate_left
 · exact ⟨rfl, Or.inl ⟨sToo, 43, 3, (by unfold bdW tlW; rw [if_neg (by omega), if_neg (by omega), if_pos (by omega)]), vf, rfl, hf.lw CC.size⟩, CC.trans1 k⟩
 skip
 replace R := Rn
 clear Rn
 replace BM := BM.chg k (by have := HS.out; simp; omega)
 replace BA := BA.chg k (by have := HS.out; simp; omega)
 replace CC := CC.trans1 k
 clear k
 obtain ⟨x2, hx2⟩ : ∃ x, ((F 43 : Nat) : Int) = x := ⟨_, rfl⟩
 have HX2 : Hid (((F 43 : Nat) : Int) = x2) := hx2
 rw [hx2]
 clear hx2
 have ff := BM.frozen 34
 have cf := ms_at BM 34 _ (ms_to _)
 replace BM := (BM.setCell 34 (.int .i64 x2)).to (ms_set_to _ x2)
 replace BA := BA.setOther (show ab ≠ mb by have := HS.out; omega) 34 (.int .i64 x2)
 have k : Chg w8 (w8.setCell ⟨mb, 34, none⟩ (.int .i64 x2)) [mb] := (Chg.refl w8 [mb]).setIn (by simp) 34 _
 replace R := R.chg k (by have := HS.out; simp; omega)
 replace CC := CC.trans k (fun i hi => by simp at hi; subst hi; exact Or.inr HS.out.2.2.2.2)
 clear k
 go_wp2_with fail
 generalize (w8.setCell ⟨mb, 34, none⟩ (.int .i64 x2)) = w9 at *
 clear ff cf
 refine (HSg.out w9 44 _ _ (by omega) R (HB.out.chg CC (by simp; exact HG.out))).mono ?_
 rintro e w10 (⟨a108, rfl, Rn, k⟩ | ⟨hx, ⟨vf, rfl, hf⟩, k⟩)
 rotate_left
 · exact ⟨rfl, Or.inl ⟨sSig, 44, 3, (by unfold bdW tlW; rw [if_neg (by omega), if_neg (by omega), if_neg (by omega)]; rw [if_neg (by decide), if_neg (by decide), if_neg (by decide), if_neg (by decide)]; rw [if_pos (by omega)]), vf, rfl, hf.lw CC.size⟩, CC.trans1 k⟩
 skip
 replace R := Rn
 clear Rn
 replace BM := BM.chg k (by have := HS.out; simp; omega)
 replace BA := BA.chg k (by have := HS.out; simp; omega)
 replace CC := CC.trans1 k
 clear k
 obtain ⟨U44, hU⟩ : ∃ U, (fun j => F (44 + j)) = U := ⟨_, rfl⟩
 have HU44 : Hid ((fun j => F (44 + j)) = U44) := hU
 rw [hU]
 clear hU
 have BMo := BM
 go_wp2_with (first
   | (with_reducible refine store_row ?_ 32 (.tmp 51) (.tmp 50) ?_ mb 166 ({ ({ ({ (ms0 6 : Ms) with ses := U } : Ms) with fr := x1 } : Ms) with to := x2 }) ({ ({ ({ ({ (ms0 6 : Ms) with ses := U } : Ms) with fr := x1 } : Ms) with to := x2 } : Ms) with sig := U44 }) (yL 64 U44) ?_ ?_ BMo ?_ ?_ ?_ ?_ ?_
      · rfl
      · rfl
      · rfl
      · rfl
      · simp [yL]
      · rw [yL_len]; exact sigInfoM
      · exact yL_1 _ _
      · exact ms_set_sig _ _
      intro w11 BMn k))
 replace BM := BMn
 clear BMo BMn
 replace BA := BA.chg k (by have := HS.out; simp; omega)
 replace R := R.chg k (by have := HS.out; simp; omega)
 replace CC := CC.trans k (fun i hi => by simp at hi; subst hi; exact Or.inr HS.out.2.2.2.2)
 clear k
 refine (end_s r n c 108 _ _ _ (by omega) w11 R).mono ?_
 rintro e w12 (⟨hz, rfl, k⟩ | ⟨hz, ⟨vf, rfl, hf⟩, k⟩)
 rotate_left
 · exact ⟨rfl, Or.inl ⟨sTail, 108, 104, (by unfold bdW tlW; rw [if_neg (by omega), if_neg (by omega), if_neg (by omega)]; rw [if_neg (by decide), if_neg (by decide), if_neg (by decide), if_neg (by decide)]; rw [if_neg (by omega)]; rw [if_pos (by omega)]), vf, rfl, hf.lw CC.size⟩, CC.trans1 k⟩
 replace BM := BM.chg k (by have := HS.out; simp; omega)
 replace BA := BA.chg k (by have := HS.out; simp; omega)
 replace CC := CC.trans1 k
 clear k
 have HZ : Hid (n = 108) := hz.symm
 clear hz
 obtain ⟨M, hM⟩ : ∃ M, M = ({ ({ ({ ({ (ms0 6 : Ms) with ses := U } : Ms) with fr := x1 } : Ms) with to := x2 } : Ms) with sig := U44 } : Ms) := ⟨_, rfl⟩
 have hM1 : M.list.oneCell' = true ∧ M.text.oneCell' = true := by rw [hM]; exact ⟨rfl, rfl⟩
 have HMM : Hid (M = ({ ({ ({ ({ (ms0 6 : Ms) with ses := U } : Ms) with fr := x1 } : Ms) with to := x2 } : Ms) with sig := U44 } : Ms)) := hM
 rw [← hM] at BM
 clear hM
 go_wp2_with (first
   | (refine wpList_load_row rfl 35 _ rfl mb rfl 35 _ (0, 0) _ BM Tryz.underlying35 rfl (by rw [msC_size]; exact msInfoW) ?_)
   | (refine store_w BA rfl 35 _ _ (msC M) rfl rfl rfl (by rw [msC_size]; exact msInfoW) (by rw [msC_size, msC_size]) (ms_oneC _ hM1.1 hM1.2) ?_; intro wE BAE kE))
 exact bodyPost_ret (results_cell_row Tryz.results86 _ _ ab 35 (msC M) (0, 0) _ rfl BAE Tryz.underlying35 rfl (by rw [msC_size]; exact msInfoW)) rfl ⟨Or.inr ⟨(by have hz := HZ.out; unfold bdW tlW; rw [if_neg (by omega), if_neg (by omega), if_neg (by omega)]; rw [if_neg (by decide), if_neg (by decide), if_neg (by decide), if_neg (by decide)]; rw [if_neg (by omega)]; rw [if_neg (by omega)]), by rw [HMM.out]; unfold rdM; rw [if_neg (by decide), if_neg (by decide), if_neg (by decide), if_neg (by decide)]; unfold rd0; rw [HU.out, HX1.out, HX2.out, HU44.out]⟩, CC.trans kE (fun i hi => by simp at hi; subst hi; exact Or.inr HS.out.2.2.2.1)⟩
end Go.Proofs.YtgjclegpnbjlkaaGreatDoor

set_option linter.all false
namespace Go.Proofs.YtgjclegpnbjlkaaGreatDoor
set_option maxHeartbeats 16000000
set_option maxRecDepth 100000
open Go.RowKit
theorem ms_set_list (m : Ms) (v : Value) : (msC m).setIfInBounds 100 v = msC { m with list := v } := by kernel_rfl
theorem ms_set_text (m : Ms) (v : Value) : (msC m).setIfInBounds 101 v = msC { m with text := v } := by kernel_rfl
theorem slFm {w : World} {v : Value} {n : Nat} {f : Nat → Nat} (h : Sl w v n f) : ∃ p c, v = .slice p n c := by
 rcases h with ⟨rfl, rfl⟩ | ⟨g, o, c, rfl, _⟩
 · exact ⟨_, _, rfl⟩
 · exact ⟨_, _, rfl⟩
theorem OwnR.lenL {w : World} {base : Nat} {T : TypeId} {s : Nat} {v : Value} {n : Nat} {F : Nat → List Value} (h : OwnR w base T s v n F) : ∃ p c, v = .slice p n c := by
 rcases h.1.2 with ⟨e, h0⟩ | ⟨g, cap, cur, e, _⟩
 · obtain rfl : n = 0 := h0
   exact ⟨_, _, e⟩
 · exact ⟨_, _, e⟩
theorem OwnR.far {w w' : World} {base : Nat} {T : TypeId} {v : Value} {n : Nat} {F : Nat → List Value} {l : List Nat} (h : OwnR w base T 65 v n F) (hc : Chg w w' l) (hl : ∀ y, y ∈ l → y < base) : OwnR w' base T 65 v n F :=
 h.chg hc (fun y hy hm => by have := (h.1.lt y (by unfold ob at hy; simpa using hy)).1; have := hl y hm; omega)
theorem Own.far {w w' : World} {base : Nat} {v : Value} {n : Nat} {f : Nat → Nat} {l : List Nat} (h : Own w base v n f) (hc : Chg w w' l) (hl : ∀ y, y ∈ l → y < base) : Own w' base v n f :=
 h.chg hc (fun y hy hm => by have := (h.ob_ge y hy).1; have := hl y hm; omega)
def TxQ (w : World) (r : Nat) (V : Value) (n a : Nat) (F : Nat → Nat) (e : Ending) (w' : World) : Prop :=
 (a + 4 + nm F a 4 ≤ n ∧ nm F a 4 ≤ 1048575 ∧ ∃ v, e = .returned v ∧ Own w' w.heap.size v (nm F a 4) (fun j => F (a + 4 + j)) ∧ Rd w' r V ((a + 4 + nm F a 4 : Nat) : Int) sText (a : Int) ∧ Chg w w' [r]) ∨
 (∃ y : Nat, ((n < a + 4 ∧ y = 3) ∨ (a + 4 ≤ n ∧ 1048575 < nm F a 4 ∧ y = 10) ∨ (a + 4 ≤ n ∧ nm F a 4 ≤ 1048575 ∧ n < a + 4 + nm F a 4 ∧ y = 3)) ∧ Gu w.heap.size sText (a : Int) ((y : Nat) : Int) e w' ∧ Chg w w' [r])
theorem text_s (r n c g o a : Nat) (F : Nat → Nat) (b : Int) (s : ByteArray) (ha : a ≤ n) (hn : n < c) (hn2 : c ≤ 9223372036854775807) (w : World) (h : Rd w r (.slice (some ⟨g, o, none⟩) n c) (a : Int) s b) (hB : Bs w g o n F) (hgr : ¬ g = r) :
   Calls Tryz.prog 103 #[.pointer (some ⟨r, 0, none⟩)] w fun e w' => TxQ w r (.slice (some ⟨g, o, none⟩) n c) n a F e w' := by
 by_cases h4 : n < a + 4
 · exact (text_gu4 r n c a _ b s h4 ha (by omega) w h).mono fun e w' q => Or.inr ⟨3, Or.inl ⟨h4, rfl⟩, q⟩
 · by_cases hL : nm F a 4 ≤ 1048575
   · by_cases hk : a + 4 + nm F a 4 ≤ n
     · exact (text_ok r n c g o a _ F b s ⟨rfl, hL⟩ hk hn hn2 w h hB hgr).mono fun e w' q => Or.inl ⟨hk, hL, q⟩
     · exact (text_gu r n c g o a _ F b s ⟨rfl, hL⟩ (by omega) (by omega) hn hn2 w h hB hgr).mono fun e w' q => Or.inr ⟨3, Or.inr (Or.inr ⟨by omega, hL, by omega, rfl⟩), q⟩
   · exact (text_long r n c g o a _ F b s ⟨rfl, by omega⟩ (by omega) hn hn2 w h hB hgr).mono fun e w' q => Or.inr ⟨10, Or.inr (Or.inl ⟨by omega, by omega, rfl⟩), q⟩
def Bd3 (n : Nat) (F : Nat → Nat) (s : ByteArray) (a y : Nat) : Prop :=
 (n < 42 ∧ s = sSess ∧ a = 10 ∧ y = 3) ∨ (42 ≤ n ∧ n < 43 ∧ s = sFrm ∧ a = 42 ∧ y = 3) ∨ (43 ≤ n ∧ n < 44 ∧ s = sToo ∧ a = 43 ∧ y = 3) ∨ (44 ≤ n ∧ n < 45 ∧ s = sList ∧ a = 44 ∧ y = 3) ∨
 (45 ≤ n ∧ ∃ j, j < F 44 ∧ (∀ i, i < j → prW n (45 + 65 * i) (F (45 + 65 * i)) = 0) ∧ prW n (45 + 65 * j) (F (45 + 65 * j)) ≠ 0 ∧ s = sList ∧ a = 45 + 65 * j ∧ y = prW n (45 + 65 * j) (F (45 + 65 * j))) ∨
 (45 ≤ n ∧ (∀ i, i < F 44 → prW n (45 + 65 * i) (F (45 + 65 * i)) = 0) ∧
   ((s = sText ∧ a = 45 + 65 * F 44 ∧ ((n < a + 4 ∧ y = 3) ∨ (a + 4 ≤ n ∧ 1048575 < nm F a 4 ∧ y = 10) ∨ (a + 4 ≤ n ∧ nm F a 4 ≤ 1048575 ∧ n < a + 4 + nm F a 4 ∧ y = 3))) ∨
    (nm F (45 + 65 * F 44) 4 ≤ 1048575 ∧ 45 + 65 * F 44 + 4 + nm F (45 + 65 * F 44) 4 < n ∧ s = sTail ∧ a = 45 + 65 * F 44 + 4 + nm F (45 + 65 * F 44) 4 ∧ y = 104)))
def Mg3 (w : World) (r n : Nat) (F : Nat → Nat) (e : Ending) (w' : World) : Prop :=
 ((∃ s a y, Bd3 n F s a y ∧ Gu w.heap.size s ((a : Nat) : Int) ((y : Nat) : Int) e w') ∨
  (((45 ≤ n ∧ ∀ i, i < F 44 → prW n (45 + 65 * i) (F (45 + 65 * i)) = 0) ∧ nm F (45 + 65 * F 44) 4 ≤ 1048575 ∧ n = 45 + 65 * F 44 + 4 + nm F (45 + 65 * F 44) 4) ∧
   ∃ vl vt B, e = .returned (.agg (msC { rd0 F 3 with list := vl, text := vt })) ∧ w.heap.size ≤ B ∧ OwnR w' B 27 65 vl (F 44) (lsF F 45) ∧ Own w' B vt (nm F (45 + 65 * F 44) 4) (fun j => F (45 + 65 * F 44 + 4 + j)))) ∧ Chg w w' [r]
theorem message_k3 (r n c g o : Nat) (F : Nat → Nat) (b : Int) (s : ByteArray) (h10 : 10 ≤ n) (hn : n < c) (hn2 : c ≤ 9223372036854775807) (w : World) (h : Rd w r (.slice (some ⟨g, o, none⟩) n c) ((10 : Nat) : Int) s b) (hB : Bs w g o n F) (hgr : ¬ g = r) :
   Calls Tryz.prog 86 #[.pointer (some ⟨r, 0, none⟩), .int .i64 3] w fun e w' => Mg3 w r n F e w' := by
 have HB : Hid (Bs w g o n F) := hB
 have HG : Hid (¬ g = r) := hgr
 have HL : Hid (r < w.heap.size) := Blk.lt h
 have HR : Hid (Rd w r (.slice (some ⟨g, o, none⟩) n c) ((10 : Nat) : Int) s b) := h
 have HN : Hid (10 ≤ n ∧ n < c ∧ c ≤ 9223372036854775807) := ⟨h10, hn, hn2⟩
 have HW : Hid (∀ w' a b s s', a ≤ n → Rd w' r (.slice (some ⟨g, o, none⟩) n c) ((a : Nat) : Int) s b → Bs w' g o n F → Calls Tryz.prog 99 #[.pointer (some ⟨r, 0, none⟩), .string s'] w' fun e w'' => FdQ w' r (.slice (some ⟨g, o, none⟩) n c) n a 32 (.agg (yC 32 (fun j => F (a + j)))) s' e w'') := fun w' a b s s' ha h1 h2 => rword_s r n c g o a F b s s' ha hn hn2 w' h1 h2 hgr
 have HPt : Hid (∀ w' a b s s', a ≤ n → Rd w' r (.slice (some ⟨g, o, none⟩) n c) ((a : Nat) : Int) s b → Bs w' g o n F → Calls Tryz.prog 100 #[.pointer (some ⟨r, 0, none⟩), .string s'] w' fun e w'' => FdQ w' r (.slice (some ⟨g, o, none⟩) n c) n a 1 (.int .i64 ((F a : Nat) : Int)) s' e w'') := fun w' a b s s' ha h1 h2 => party_s r n c g o a F b s s' ha hn hn2 w' h1 h2 hgr
 have HPr : Hid (∀ w' a b s s', a ≤ n → Rd w' r (.slice (some ⟨g, o, none⟩) n c) ((a : Nat) : Int) s b → Bs w' g o n F → Calls Tryz.prog 101 #[.pointer (some ⟨r, 0, none⟩), .string s'] w' fun e w'' => PrQ w' r (.slice (some ⟨g, o, none⟩) n c) n a F s' e w'') := fun w' a b s s' ha h1 h2 => pair_s r n c g o a F b s s' ha hn hn2 w' h1 h2 hgr
 have HCd : Hid (∀ w' a b s, a ≤ n → Rd w' r (.slice (some ⟨g, o, none⟩) n c) ((a : Nat) : Int) s b → Bs w' g o n F → Calls Tryz.prog 104 #[.pointer (some ⟨r, 0, none⟩)] w' fun e w'' => CdQ w' r (.slice (some ⟨g, o, none⟩) n c) n a F e w'') := fun w' a b s ha h1 h2 => code_s r n c g o a F b s ha hn hn2 w' h1 h2 hgr
 have HSg : Hid (∀ w' a b s, a ≤ n → Rd w' r (.slice (some ⟨g, o, none⟩) n c) ((a : Nat) : Int) s b → Bs w' g o n F → Calls Tryz.prog 105 #[.pointer (some ⟨r, 0, none⟩)] w' fun e w'' => FdQ w' r (.slice (some ⟨g, o, none⟩) n c) n a 64 (.agg (yC 64 (fun j => F (a + j)))) sSig e w'') := fun w' a b s ha h1 h2 => sig_s r n c g o a F b s ha hn hn2 w' h1 h2 hgr
 have HLs : Hid (∀ w' a b s, a ≤ n → Rd w' r (.slice (some ⟨g, o, none⟩) n c) ((a : Nat) : Int) s b → Bs w' g o n F → Calls Tryz.prog 102 #[.pointer (some ⟨r, 0, none⟩)] w' fun e w'' => LsQ w' r (.slice (some ⟨g, o, none⟩) n c) n a F e w'') := fun w' a b s ha h1 h2 => list_s r n c g o a F b s ha hn hn2 w' h1 h2 hgr
 have HTx : Hid (∀ w' a b s, a ≤ n → Rd w' r (.slice (some ⟨g, o, none⟩) n c) ((a : Nat) : Int) s b → Bs w' g o n F → Calls Tryz.prog 103 #[.pointer (some ⟨r, 0, none⟩)] w' fun e w'' => TxQ w' r (.slice (some ⟨g, o, none⟩) n c) n a F e w'') := fun w' a b s ha h1 h2 => text_s r n c g o a F b s ha hn hn2 w' h1 h2 hgr
 clear h10 hn hn2 h hB hgr
 go_enter Tryz.func86, Tryz.ntmps86
 go_wp2_with (first
   | (refine store_w BM rfl 35 _ _ (msC (ms0 3)) rfl rfl rfl (by rw [msC_size]; exact msInfoW) (by rw [msC_size, msC_size]) (ms_oneC _ rfl rfl) ?_; intro w3 BM3 k3)
   | (have _h := BA; with_reducible refine alloc_w rfl 35 rfl (.agg (msC (ms0 0))) zeroMsg (msC (ms0 0)) rfl ?_; intro mb w2 hmb BM k2)
   | (with_reducible refine alloc_w rfl 35 rfl (.agg (msC (ms0 0))) zeroMsg (msC (ms0 0)) rfl ?_; intro ab w1 hab BA k1)
   | (with_reducible refine wpList_buildW ?_ 35 _ ?_ (msC (ms0 3)) ?_ ?_
      · rfl
      · rfl
      · exact builtMsg 3
      skip))
 have HS : Hid (r < ab ∧ r < mb ∧ ab < mb ∧ w.heap.size ≤ ab ∧ w.heap.size ≤ mb) := by have := HL.out; have := BA.lt; have := k1.size; exact ⟨by omega, by omega, by omega, by omega, by omega⟩
 have BA3 := (BA.chg k2 (by simp)).chg k3 (by have := HS.out; simp; omega)
 have CC : Chg w w3 [r] := (((k1.trans1 k2).wide (l := [r])).trans k3 (fun i hi => by simp at hi; subst hi; exact Or.inr HS.out.2.2.2.2))
 have R := ((HR.out.chg k1 (by simp)).chg k2 (by simp)).chg k3 (by have := HS.out; simp; omega)
 clear BA BM k1 k2 k3 hab hmb
 have BM := BM3
 have BA := BA3
 clear BM3 BA3
 have a10 : 10 ≤ n := HN.out.1
 refine (HW.out w3 10 _ _ sSess a10 R (HB.out.chg CC (by simp; exact HG.out))).mono ?_
 rintro e w4 (⟨a42, rfl, Rn, k⟩ | ⟨hx, ⟨vf, rfl, hf⟩, k⟩)
 rotate_left
 · exact ⟨rfl, Or.inl ⟨sSess, 10, 3, Or.inl ⟨by omega, rfl, rfl, rfl⟩, vf, rfl, hf.lw CC.size⟩, CC.trans1 k⟩
 skip
 replace R := Rn
 clear Rn
 replace BM := BM.chg k (by have := HS.out; simp; omega)
 replace BA := BA.chg k (by have := HS.out; simp; omega)
 replace CC := CC.trans1 k
 clear k
 obtain ⟨U, hU⟩ : ∃ U, (fun j => F (10 + j)) = U := ⟨_, rfl⟩
 have HU : Hid ((fun j => F (10 + j)) = U) := hU
 rw [hU]
 clear hU
 have BMo := BM
 go_wp2_with (first
   | (with_reducible refine store_row ?_ 24 (.tmp 10) (.tmp 9) ?_ mb 1 (ms0 3) ({ (ms0 3 : Ms) with ses := U }) (yL 32 U) ?_ ?_ BMo ?_ ?_ ?_ ?_ ?_
      · rfl
      · rfl
      · rfl
      · rfl
      · simp [yL]
      · rw [yL_len]; exact hashInfoW
      · exact yL_1 _ _
      · exact ms_set_ses _ _
      intro w5 BMn k))
 replace BM := BMn
 clear BMo BMn
 replace BA := BA.chg k (by have := HS.out; simp; omega)
 replace R := R.chg k (by have := HS.out; simp; omega)
 replace CC := CC.trans k (fun i hi => by simp at hi; subst hi; exact Or.inr HS.out.2.2.2.2)
 clear k
 refine (HPt.out w5 42 _ _ sFrm (by omega) R (HB.out.chg CC (by simp; exact HG.out))).mono ?_
 rintro e w6 (⟨a43, rfl, Rn, k⟩ | ⟨hx, ⟨vf, rfl, hf⟩, k⟩)
 rotate_left
 · exact ⟨rfl, Or.inl ⟨sFrm, 42, 3, Or.inr (Or.inl ⟨by omega, by omega, rfl, rfl, rfl⟩), vf, rfl, hf.lw CC.size⟩, CC.trans1 k⟩
 skip
 replace R := Rn
 clear Rn
 replace BM := BM.chg k (by have := HS.out; simp; omega)
 replace BA := BA.chg k (by have := HS.out; simp; omega)
 replace CC := CC.trans1 k
 clear k
 obtain ⟨x1, hx1⟩ : ∃ x, ((F 42 : Nat) : Int) = x := ⟨_, rfl⟩
 have HX1 : Hid (((F 42 : Nat) : Int) = x1) := hx1
 rw [hx1]
 clear hx1
 have ff := BM.frozen 33
 have cf := ms_at BM 33 _ (ms_fr _)
 replace BM := (BM.setCell 33 (.int .i64 x1)).to (ms_set_fr _ x1)
 replace BA := BA.setOther (show ab ≠ mb by have := HS.out; omega) 33 (.int .i64 x1)
 have k : Chg w6 (w6.setCell ⟨mb, 33, none⟩ (.int .i64 x1)) [mb] := (Chg.refl w6 [mb]).setIn (by simp) 33 _
 replace R := R.chg k (by have := HS.out; simp; omega)
 replace CC := CC.trans k (fun i hi => by simp at hi; subst hi; exact Or.inr HS.out.2.2.2.2)
 clear k
 go_wp2_with fail
 generalize (w6.setCell ⟨mb, 33, none⟩ (.int .i64 x1)) = w7 at *
 clear ff cf
 refine (HPt.out w7 43 _ _ sToo (by omega) R (HB.out.chg CC (by simp; exact HG.out))).mono ?_
 rintro e w8 (⟨a44, rfl, Rn, k⟩ | ⟨hx, ⟨vf, rfl, hf⟩, k⟩)
 rotate_left
 · exact ⟨rfl, Or.inl ⟨sToo, 43, 3, Or.inr (Or.inr (Or.inl ⟨by omega, by omega, rfl, rfl, rfl⟩)), vf, rfl, hf.lw CC.size⟩, CC.trans1 k⟩
 skip
 replace R := Rn
 clear Rn
 replace BM := BM.chg k (by have := HS.out; simp; omega)
 replace BA := BA.chg k (by have := HS.out; simp; omega)
 replace CC := CC.trans1 k
 clear k
 obtain ⟨x2, hx2⟩ : ∃ x, ((F 43 : Nat) : Int) = x := ⟨_, rfl⟩
 have HX2 : Hid (((F 43 : Nat) : Int) = x2) := hx2
 rw [hx2]
 clear hx2
 have ff := BM.frozen 34
 have cf := ms_at BM 34 _ (ms_to _)
 replace BM := (BM.setCell 34 (.int .i64 x2)).to (ms_set_to _ x2)
 replace BA := BA.setOther (show ab ≠ mb by have := HS.out; omega) 34 (.int .i64 x2)
 have k : Chg w8 (w8.setCell ⟨mb, 34, none⟩ (.int .i64 x2)) [mb] := (Chg.refl w8 [mb]).setIn (by simp) 34 _
 replace R := R.chg k (by have := HS.out; simp; omega)
 replace CC := CC.trans k (fun i hi => by simp at hi; subst hi; exact Or.inr HS.out.2.2.2.2)
 clear k
 go_wp2_with fail
 generalize (w8.setCell ⟨mb, 34, none⟩ (.int .i64 x2)) = w9 at *
 clear ff cf
 have HBS : Hid (mb < w9.heap.size ∧ ab < w9.heap.size ∧ r < w9.heap.size ∧ w.heap.size ≤ w9.heap.size) := ⟨BM.lt, BA.lt, Blk.lt R, CC.size⟩
 have KW : Chg w9 w9 [] := Chg.refl _ _
 refine (HLs.out w9 44 _ _ (by omega) R (HB.out.chg CC (by simp; exact HG.out))).mono ?_
 rintro e v1 (⟨hq, ⟨vf, rfl, hf⟩, k⟩ | ⟨a45, (⟨hok, vl, bl, rfl, OL, Rn, k⟩ | ⟨j, hj, hji, hjj, ⟨vf, rfl, hf⟩, k⟩)⟩)
 · exact ⟨rfl, Or.inl ⟨sList, 44, 3, Or.inr (Or.inr (Or.inr (Or.inl ⟨by omega, by omega, rfl, rfl, rfl⟩))), vf, rfl, hf.lw CC.size⟩, CC.trans1 k⟩
 rotate_left
 · exact ⟨rfl, Or.inl ⟨sList, 45 + 65 * j, _, Or.inr (Or.inr (Or.inr (Or.inr (Or.inl ⟨by omega, j, hj, hji, hjj, rfl, rfl, rfl⟩)))), vf, rfl, hf.lw CC.size⟩, CC.trans1 k⟩
 replace R := Rn
 clear Rn
 replace BM := BM.chg k (by have := HS.out; simp; omega)
 replace BA := BA.chg k (by have := HS.out; simp; omega)
 replace CC := CC.trans1 k
 have HV1 : Hid (w9.heap.size ≤ v1.heap.size) := k.size
 clear k
 have HOK : Hid (45 ≤ n ∧ ∀ i, i < F 44 → prW n (45 + 65 * i) (F (45 + 65 * i)) = 0) := ⟨a45, hok⟩
 clear hok
 obtain ⟨pl, cl, rfl⟩ := OL.lenL
 obtain ⟨y, hy⟩ : ∃ y, F 44 = y := ⟨_, rfl⟩
 have HY : Hid (F 44 = y ∧ y < 256) := ⟨hy, by rw [← hy]; exact HB.out.bd 44 (by omega)⟩
 have hpl : 45 + 65 * F 44 ≤ n := by
   by_cases h0 : F 44 = 0
   · omega
   · have := HOK.out.2 (F 44 - 1) (by omega)
     by_cases hq : n < 45 + 65 * (F 44 - 1) + 65
     · exact absurd (show prW n (45 + 65 * (F 44 - 1)) (F (45 + 65 * (F 44 - 1))) = 3 from if_pos hq) (by rw [this]; decide)
     · omega
 rw [hy] at OL R hpl
 have R0 : Rd v1 r (.slice (some ⟨g, o, none⟩) n c) ((45 + 65 * y : Nat) : Int) sList bl := R
 rw [hy]
 clear hy R
 have ff := BM.frozen 100
 have cf := ms_at BM 100 _ (ms_list _)
 replace BM := (BM.setCell 100 (.slice pl y cl)).to (ms_set_list _ _)
 replace BA := BA.setOther (show ab ≠ mb by have := HS.out; omega) 100 (.slice pl y cl)
 have k : Chg v1 (v1.setCell ⟨mb, 100, none⟩ (.slice pl y cl)) [mb] := (Chg.refl v1 [mb]).setIn (by simp) 100 _
 replace R0 := R0.chg k (by have := HS.out; simp; omega)
 replace OL := OL.far k (fun y hy => by have := HBS.out; simp at hy; omega)
 replace CC := CC.trans k (fun i hi => by simp at hi; subst hi; exact Or.inr HS.out.2.2.2.2)
 have HV2P : w9.heap.size ≤ (v1.setCell ⟨mb, 100, none⟩ (.slice pl y cl)).heap.size := Nat.le_trans HV1.out k.size
 clear k KW
 go_wp2_with fail
 generalize (v1.setCell ⟨mb, 100, none⟩ (.slice pl y cl)) = v2 at *
 clear ff cf
 have HV2 : Hid (w9.heap.size ≤ v2.heap.size) := HV2P
 clear HV2P
 refine (HTx.out v2 (45 + 65 * y) _ _ hpl R0 (HB.out.chg CC (by simp; exact HG.out))).mono ?_
 rintro e v3 (⟨ht1, ht2, vt, rfl, OT, Rn, k⟩ | ⟨yy, hyy, ⟨vf, rfl, hf⟩, k⟩)
 rotate_left
 · exact ⟨rfl, Or.inl ⟨sText, 45 + 65 * y, yy, Or.inr (Or.inr (Or.inr (Or.inr (Or.inr ⟨HOK.out.1, HOK.out.2, Or.inl ⟨rfl, by rw [HY.out.1], hyy⟩⟩)))), vf, rfl, hf.lw CC.size⟩, CC.trans1 k⟩
 have R := Rn
 clear Rn R0
 replace BM := BM.chg k (by have := HS.out; simp; omega)
 replace BA := BA.chg k (by have := HS.out; simp; omega)
 replace OL := OL.far k (fun y hy => by have := HBS.out; simp at hy; omega)
 replace CC := CC.trans1 k
 have OT1 : Own v3 w9.heap.size vt (nm F (45 + 65 * y) 4) (fun j => F (45 + 65 * y + 4 + j)) := OT.base HV2.out
 clear k OT
 obtain ⟨pt, ct, rfl⟩ := slFm OT1.sl
 have HT4 : Hid (nm F (45 + 65 * y) 4 ≤ 1048575 ∧ 45 + 65 * y + 4 + nm F (45 + 65 * y) 4 ≤ n) := ⟨ht2, ht1⟩
 obtain ⟨L, hL⟩ : ∃ L, nm F (45 + 65 * y) 4 = L := ⟨_, rfl⟩
 have HLL : Hid (nm F (45 + 65 * y) 4 = L) := hL
 rw [hL] at OT1 R ht1 ht2
 rw [hL]
 clear hL
 have ff := BM.frozen 101
 have cf := ms_at BM 101 _ (ms_text _)
 replace BM := (BM.setCell 101 (.slice pt L ct)).to (ms_set_text _ _)
 replace BA := BA.setOther (show ab ≠ mb by have := HS.out; omega) 101 (.slice pt L ct)
 have k : Chg v3 (v3.setCell ⟨mb, 101, none⟩ (.slice pt L ct)) [mb] := (Chg.refl v3 [mb]).setIn (by simp) 101 _
 replace R := R.chg k (by have := HS.out; simp; omega)
 replace OL := OL.far k (fun y hy => by have := HBS.out; simp at hy; omega)
 replace OT1 := OT1.far k (fun y hy => by have := HBS.out; simp at hy; omega)
 replace CC := CC.trans k (fun i hi => by simp at hi; subst hi; exact Or.inr HS.out.2.2.2.2)
 clear k
 go_wp2_with fail
 generalize (v3.setCell ⟨mb, 101, none⟩ (.slice pt L ct)) = v4 at *
 clear ff cf
 refine (end_s r n c (45 + 65 * y + 4 + L) _ _ _ ht1 v4 R).mono ?_
 rintro e v5 (⟨hz, rfl, k⟩ | ⟨hz, ⟨vf, rfl, hf⟩, k⟩)
 rotate_left
 · exact ⟨rfl, Or.inl ⟨sTail, 45 + 65 * y + 4 + L, 104, Or.inr (Or.inr (Or.inr (Or.inr (Or.inr ⟨HOK.out.1, HOK.out.2, Or.inr ⟨by rw [HY.out.1, HLL.out]; exact ht2, by rw [HY.out.1, HLL.out]; exact hz, rfl, by rw [HY.out.1, HLL.out], rfl⟩⟩)))), vf, rfl, hf.lw CC.size⟩, CC.trans1 k⟩
 replace BM := BM.chg k (by have := HS.out; simp; omega)
 replace BA := BA.chg k (by have := HS.out; simp; omega)
 replace OL := OL.far k (fun y hy => by have := HBS.out; simp at hy; omega)
 replace OT1 := OT1.far k (fun y hy => by have := HBS.out; simp at hy; omega)
 replace CC := CC.trans1 k
 clear k
 have HZ : Hid (n = 45 + 65 * y + 4 + L) := hz.symm
 clear hz
 obtain ⟨M, hM⟩ : ∃ M, M = ({ ({ ({ ({ ({ (ms0 3 : Ms) with ses := U } : Ms) with fr := x1 } : Ms) with to := x2 } : Ms) with list := .slice pl y cl } : Ms) with text := .slice pt L ct } : Ms) := ⟨_, rfl⟩
 have hM1 : M.list.oneCell' = true ∧ M.text.oneCell' = true := by rw [hM]; exact ⟨rfl, rfl⟩
 have HMM : Hid (M = ({ ({ ({ ({ ({ (ms0 3 : Ms) with ses := U } : Ms) with fr := x1 } : Ms) with to := x2 } : Ms) with list := .slice pl y cl } : Ms) with text := .slice pt L ct } : Ms)) := hM
 rw [← hM] at BM
 clear hM
 have HOW : Hid (OwnR v5 w9.heap.size 27 65 (.slice pl y cl) y (lsF F 45) ∧ Own v5 w9.heap.size (.slice pt L ct) L (fun j => F (45 + 65 * y + 4 + j))) := ⟨OL, OT1⟩
 clear OL OT1
 go_wp2_with (first
   | (refine wpList_load_row rfl 35 _ rfl mb rfl 35 _ (0, 0) _ BM Tryz.underlying35 rfl (by rw [msC_size]; exact msInfoW) ?_)
   | (refine store_w BA rfl 35 _ _ (msC M) rfl rfl rfl (by rw [msC_size]; exact msInfoW) (by rw [msC_size, msC_size]) (ms_oneC _ hM1.1 hM1.2) ?_; intro wE BAE kE))
 exact bodyPost_ret (results_cell_row Tryz.results86 _ _ ab 35 (msC M) (0, 0) _ rfl BAE Tryz.underlying35 rfl (by rw [msC_size]; exact msInfoW)) rfl ⟨Or.inr ⟨⟨HOK.out, by rw [HY.out.1, HLL.out]; exact ht2, by rw [HY.out.1, HLL.out]; exact HZ.out⟩, .slice pl y cl, .slice pt L ct, w9.heap.size, by rw [HMM.out]; unfold rd0; rw [HU.out, HX1.out, HX2.out], HBS.out.2.2.2, by rw [HY.out.1]; exact HOW.out.1.far kE (fun y hy => by have := HBS.out; simp at hy; omega), by rw [HY.out.1, HLL.out]; exact HOW.out.2.far kE (fun y hy => by have := HBS.out; simp at hy; omega)⟩, CC.trans kE (fun i hi => by simp at hi; subst hi; exact Or.inr HS.out.2.2.2.1)⟩
end Go.Proofs.YtgjclegpnbjlkaaGreatDoor
