/- Joined: W34, W35. -/
import Derived.Test.YtgjclegpnbjlkaaGreatDoorW33
set_option linter.all false
namespace Go.Proofs.YtgjclegpnbjlkaaGreatDoor
set_option maxHeartbeats 4000000
set_option maxRecDepth 100000
open Go.RowKit
theorem pair_gu1 (r n c a : Nat) (p : Option Addr) (b : Int) (s s' : ByteArray) (hk : n < a + 1) (ha : a ≤ n) (hn : n ≤ 9223372036854775807) (w : World) (h : Rd w r (.slice p n c) (a : Int) s b) :
   Calls Tryz.prog 101 #[.pointer (some ⟨r, 0, none⟩), .string s'] w fun e w' => Gu w.heap.size s' (a : Int) 3 e w' ∧ Chg w w' [r] := by
 have HA : Hid (n < a + 1 ∧ a ≤ n ∧ n ≤ 9223372036854775807) := ⟨hk, ha, hn⟩
 have HR : Hid (Rd w r (.slice p n c) (a : Int) s b) := h
 clear hk ha hn h
 go_enter Tryz.func101, Tryz.ntmps101
 go_wp2_with (with_reducible refine alloc_w rfl 27 rfl (.agg (cmC 0 zN zN)) zeroCm (cmC 0 zN zN) rfl ?_; intro ab w1 hab BR k1)
 refine (begin_s r _ _ b s s' w1 (HR.out.chg k1 (by simp))).mono ?_
 rintro e w2 ⟨rfl, R, k2⟩
 have C := (k1.wide (l := [r])).trans1 k2
 clear k1 k2 hab BR
 go_wp2_with fail
 refine (number_gu r n c 1 p a _ s' HA.out.1 HA.out.2.2 HA.out.2.1 (by omega) w2 R).mono ?_
 rintro e w5 ⟨⟨v5, rfl, hf⟩, k5⟩
 exact ⟨rfl, ⟨v5, rfl, hf.lw C.size⟩, C.trans1 k5.wide⟩
def prW (n a x : Nat) : Nat := if n < a + 65 then 3 else if x = 0 then 4 else 0
def cmA (F : Nat → Nat) (a : Nat) : Array Value := cmC ((F a : Nat) : Int) (fun j => F (a + 1 + j)) (fun j => F (a + 33 + j))
def PrQ (w : World) (r : Nat) (V : Value) (n a : Nat) (F : Nat → Nat) (s : ByteArray) (e : Ending) (w' : World) : Prop :=
 (prW n a (F a) = 0 ∧ e = .returned (.agg (cmA F a)) ∧ Rd w' r V ((a + 65 : Nat) : Int) s (a : Int) ∧ Chg w w' [r]) ∨ (prW n a (F a) ≠ 0 ∧ Gu w.heap.size s (a : Int) ((prW n a (F a) : Nat) : Int) e w' ∧ Chg w w' [r])
theorem pair_s (r n c g o a : Nat) (F : Nat → Nat) (b : Int) (s s' : ByteArray) (ha : a ≤ n) (hn : n < c) (hn2 : c ≤ 9223372036854775807) (w : World) (h : Rd w r (.slice (some ⟨g, o, none⟩) n c) (a : Int) s b) (hB : Bs w g o n F) (hgr : ¬ g = r) :
   Calls Tryz.prog 101 #[.pointer (some ⟨r, 0, none⟩), .string s'] w fun e w' => PrQ w r (.slice (some ⟨g, o, none⟩) n c) n a F s' e w' := by
 unfold PrQ prW
 by_cases h1 : n < a + 65
 · rw [if_pos h1]
   by_cases h2 : n < a + 1
   · exact (pair_gu1 r n c a _ b s s' h2 ha (by omega) w h).mono fun e w' q => Or.inr ⟨by decide, q⟩
   · by_cases h3 : n < a + 33
     · exact (pair_gu33 r n c g o a (F a) F b s s' rfl (by omega) h3 hn hn2 w h hB hgr).mono fun e w' q => Or.inr ⟨by decide, q⟩
     · exact (pair_gu65 r n c g o a (F a) F b s s' rfl (by omega) h1 hn hn2 w h hB hgr).mono fun e w' q => Or.inr ⟨by decide, q⟩
 · rw [if_neg h1]
   by_cases h2 : F a = 0
   · rw [if_pos h2]
     exact (pair_zero r n c g o a (F a) F b s s' rfl (by omega) h2 hn hn2 w h hB hgr).mono fun e w' q => Or.inr ⟨by decide, q⟩
   · rw [if_neg h2]
     exact (pair_ok r n c g o a (F a) F b s s' rfl (by omega) (by omega) hn hn2 w h hB hgr).mono fun e w' q => Or.inl ⟨rfl, q⟩
theorem cmRow : ∃ i, Tryz.prog.info? 27 = some i ∧ i.zero = some (.agg (cmC 0 zN zN)) ∧ i.size = 65 ∧ i.bytes = 72 := by
 have h : (Tryz.prog.info? 27).map (fun i => (i.zero, i.size, i.bytes)) = some (some (.agg (cmC 0 zN zN)), 65, 72) := by kernel_rfl
 cases hi : Tryz.prog.info? 27 with
 | none => rw [hi] at h; simp at h
 | some i => rw [hi] at h; simp at h; exact ⟨i, rfl, h.1, h.2.1, h.2.2⟩
theorem fillCm (d : Int) (h b : Nat → Nat) : Instr.fill (fun i => some (i * 65, 65)) ((Array.range (1 * 65)).map ((Value.agg (cmC 0 zN zN)).cells[· % (Value.agg (cmC 0 zN zN)).cells.size]!)) [(0, .agg (cmC d h b))] = some (cmC d h b) := by kernel_rfl
def lsF (F : Nat → Nat) (a : Nat) : Nat → List Value := cF (fun i => ((F (a + 65 * i) : Nat) : Int)) (fun i j => F (a + 65 * i + 1 + j)) (fun i j => F (a + 65 * i + 33 + j))
theorem lsF_arr (F : Nat → Nat) (a i : Nat) : (lsF F a i).toArray = cmA F (a + 65 * i) := rfl
theorem row_rl {w : World} {g : Nat} {L : List Value} (hB : Blk w g L.toArray 27) (hL : L.length = 65) (h1 : ∀ v ∈ L, v.oneCell' = true) : Rl w 65 (.slice (some ⟨g, 0, none⟩) 1 1) 1 (fun _ => L) :=
 ⟨fun _ _ => ⟨hL, h1⟩, Or.inr ⟨g, 0, 1, rfl, by decide, by decide, hB.lt, fun i hi => by
   obtain rfl : i = 0 := by omega
   intro j v hv
   rw [show 0 + 0 * 65 + j = j from by omega, hB.cell]
   simpa using hv⟩⟩
theorem catR_one65 (F : Nat → Nat) (a i : Nat) : ∀ j, j < i + 1 → catR (lsF F a) i (fun _ => lsF F a i) j = lsF F a j := fun j hj => by
 unfold catR
 by_cases h : j < i
 · rw [if_pos h]
 · rw [if_neg h, show j = i from by omega]
theorem OwnR.cong65 {w : World} {base : Nat} {T : TypeId} {v : Value} {n : Nat} {F G : Nat → List Value} (h : OwnR w base T 65 v n F) (e : ∀ j, j < n → F j = G j) : OwnR w base T 65 v n G := by
 refine ⟨?_, fun i hi => by rw [← e i hi]; exact h.2 i hi⟩
 rw [← rL_congr e]
 exact h.1
def LsQ (w : World) (r : Nat) (V : Value) (n a : Nat) (F : Nat → Nat) (e : Ending) (w' : World) : Prop :=
 (n < a + 1 ∧ Gu w.heap.size sList (a : Int) 3 e w' ∧ Chg w w' [r]) ∨ (a + 1 ≤ n ∧
   (((∀ i, i < F a → prW n (a + 1 + 65 * i) (F (a + 1 + 65 * i)) = 0) ∧ ∃ v b, e = .returned v ∧ OwnR w' w.heap.size 27 65 v (F a) (lsF F (a + 1)) ∧ Rd w' r V ((a + 1 + 65 * F a : Nat) : Int) sList b ∧ Chg w w' [r]) ∨
   ∃ j, j < F a ∧ (∀ i, i < j → prW n (a + 1 + 65 * i) (F (a + 1 + 65 * i)) = 0) ∧ prW n (a + 1 + 65 * j) (F (a + 1 + 65 * j)) ≠ 0 ∧ Gu w.heap.size sList ((a + 1 + 65 * j : Nat) : Int) ((prW n (a + 1 + 65 * j) (F (a + 1 + 65 * j)) : Nat) : Int) e w' ∧ Chg w w' [r]))
end Go.Proofs.YtgjclegpnbjlkaaGreatDoor

set_option linter.all false
namespace Go.Proofs.YtgjclegpnbjlkaaGreatDoor
set_option maxHeartbeats 8000000
set_option maxRecDepth 100000
open Go.RowKit
theorem lsF_len (F : Nat → Nat) (a i : Nat) : (lsF F a i).length = 65 ∧ ∀ v ∈ lsF F a i, v.oneCell' = true := cF_ok (i + 1) _ _ _ i (by omega)
theorem list_gu1 (r n c a : Nat) (p : Option Addr) (b : Int) (s : ByteArray) (hk : n < a + 1) (ha : a ≤ n) (hn : n ≤ 9223372036854775807) (w : World) (h : Rd w r (.slice p n c) (a : Int) s b) :
   Calls Tryz.prog 102 #[.pointer (some ⟨r, 0, none⟩)] w fun e w' => Gu w.heap.size sList (a : Int) 3 e w' ∧ Chg w w' [r] := by
 have HA : Hid (n < a + 1 ∧ a ≤ n ∧ n ≤ 9223372036854775807) := ⟨hk, ha, hn⟩
 have q := begin_s r _ _ b s sList w h
 clear hk ha hn h
 go_enter Tryz.func102, Tryz.ntmps102
 go_wp2_with fail
 refine q.mono ?_
 rintro e w2 ⟨rfl, h2, k2⟩
 go_wp2_with fail
 refine (number_gu r n c 1 p a _ sList HA.out.1 HA.out.2.2 HA.out.2.1 (by omega) w2 h2).mono ?_
 rintro e w5 ⟨⟨v5, rfl, hf⟩, k5⟩
 exact ⟨rfl, ⟨v5, rfl, hf.lw k2.size⟩, k2.trans1 k5.wide⟩
theorem list_s (r n c g o a : Nat) (F : Nat → Nat) (b : Int) (s : ByteArray) (ha : a ≤ n) (hn : n < c) (hn2 : c ≤ 9223372036854775807) (w : World) (h : Rd w r (.slice (some ⟨g, o, none⟩) n c) (a : Int) s b) (hB : Bs w g o n F) (hgr : ¬ g = r) :
   Calls Tryz.prog 102 #[.pointer (some ⟨r, 0, none⟩)] w fun e w' => LsQ w r (.slice (some ⟨g, o, none⟩) n c) n a F e w' := by
 by_cases hn1 : n < a + 1
 · exact (list_gu1 r n c a _ b s hn1 ha (by omega) w h).mono fun e w' q => Or.inl ⟨hn1, q⟩
 have hx256 : F a < 256 := hB.bd a (by omega)
 have HN : Hid (∀ w', Rd w' r (.slice (some ⟨g, o, none⟩) n c) (a : Int) sList (a : Int) → Bs w' g o n F → Calls Tryz.prog 91 #[.pointer (some ⟨r, 0, none⟩), .int .i64 1] w' fun e w'' => e = .returned (.int .u32 ((F a : Nat) : Int)) ∧ Rd w'' r (.slice (some ⟨g, o, none⟩) n c) ((a + 1 + 65 * 0 : Nat) : Int) sList (a : Int) ∧ Chg w' w'' [r]) :=
   fun w' h1 h2 => (number_ok r n c g o a 1 F _ sList (by omega) (by omega) (by omega) (by omega) hn2 w' h1 h2 hgr).mono fun e w'' ⟨h3, h4, h5⟩ => ⟨by rw [h3, show nm F a 1 = F a from by simp [nm]], h4, h5⟩
 have HP : Hid (∀ w' i b, a + 1 + 65 * i ≤ n → Rd w' r (.slice (some ⟨g, o, none⟩) n c) ((a + 1 + 65 * i : Nat) : Int) sList b → Bs w' g o n F → Calls Tryz.prog 101 #[.pointer (some ⟨r, 0, none⟩), .string sList] w' fun e w'' => PrQ w' r (.slice (some ⟨g, o, none⟩) n c) n (a + 1 + 65 * i) F sList e w'') :=
   fun w' i b hi h1 h2 => pair_s r n c g o (a + 1 + 65 * i) F b sList sList hi hn hn2 w' h1 h2 hgr
 have HB : Hid (Bs w g o n F) := hB
 have HG : Hid (¬ g = r) := hgr
 have HL : Hid (r < w.heap.size) := Blk.lt h
 have q := begin_s r _ _ b s sList w h
 obtain ⟨x, hx⟩ : ∃ x, F a = x := ⟨_, rfl⟩
 rw [hx] at HN hx256
 have HX : Hid (F a = x ∧ x < 256 ∧ a + 1 ≤ n ∧ n < c ∧ c ≤ 9223372036854775807) := ⟨hx, hx256, by omega, hn, hn2⟩
 obtain ⟨ic, hic, hicz, hics, hicb⟩ := cmRow
 clear hx hx256 hn1 ha hn hn2 h hB hgr
 go_enter Tryz.func102, Tryz.ntmps102
 go_wp2_with fail
 refine q.mono ?_
 rintro e w2 ⟨rfl, h2, k2⟩
 go_wp2_with fail
 refine (HN.out w2 h2 (HB.out.chg k2 (by simp; exact HG.out))).mono ?_
 rintro e w3 ⟨rfl, R3, k3⟩
 have C3 := k2.trans1 k3
 clear q k2 k3 h2
 go_wp2_with fail
 go_loopw [3, 8] (fun t3 t8 wr => ∃ i : Nat, i ≤ x ∧ t8 = .int .u32 (i : Int) ∧ (∃ p cc, t3 = .slice p i cc) ∧ OwnR wr w.heap.size 27 65 t3 i (lsF F (a + 1)) ∧ (∃ b, Rd wr r (.slice (some ⟨g, o, none⟩) n c) ((a + 1 + 65 * i : Nat) : Int) sList b) ∧ Chg w wr [r] ∧ a + 1 + 65 * i ≤ n ∧ ∀ j, j < i → prW n (a + 1 + 65 * j) (F (a + 1 + 65 * j)) = 0) (fun _ t _ => ((x : Int) - intOf t).toNat)
 case atStart => exact ⟨0, by omega, rfl, ⟨none, 0, rfl⟩, OwnR.nil _ _ _ _ _, ⟨_, R3⟩, C3, by have := HX.out; omega, fun j hj => by omega⟩
 case round =>
   clear R3 C3
   obtain ⟨i, hi, rfl, ⟨p, cc, rfl⟩, O, ⟨b', R⟩, C, hin, hj⟩ := hrel
   have HJ : Hid (∀ j, j < i → prW n (a + 1 + 65 * j) (F (a + 1 + 65 * j)) = 0) := hj
   have HI : Hid (a + 1 + 65 * i ≤ n ∧ i ≤ x) := ⟨hin, hi⟩
   clear hj hin
   by_cases h8 : i < x
   · have hI : (i : Int) < (x : Int) := by omega
     have e1 : IntKind.u32.wrap ((i : Int) + 1) = (i : Int) + 1 := by have := HX.out; rw [IntKind.wrap_u32]; omega
     have HII : Hid (i < x) := h8
     have HO : Hid (OwnR wr w.heap.size 27 65 (.slice p i cc) i (lsF F (a + 1))) := O
     have HOF : Hid (∀ y, y ∈ ob (.slice p i cc) → w.heap.size ≤ y ∧ y < wr.heap.size) := fun y hy => O.1.lt y (by unfold ob at hy; simpa using hy)
     have HC : Hid (Chg w wr [r]) := C
     have B := HB.out.chg C (by simp; exact HG.out)
     clear hi h8 O C
     go_wp2_with fail
     refine (HP.out wr i b' HI.out.1 R B).mono ?_
     rintro e w4 (⟨h0, rfl, R4, k4⟩ | ⟨h0, ⟨v4, rfl, hf⟩, k4⟩)
     · have O4 := HO.out.chg k4 (fun y hy hm => by have := HOF.out y hy; have := HL.out; simp at hm; omega)
       have C4 := HC.out.trans1 k4
       have HC4 : Hid (w.heap.size ≤ w4.heap.size) := C4.size
       have HP0 : Hid (prW n (a + 1 + 65 * i) (F (a + 1 + 65 * i)) = 0 ∧ a + 1 + 65 * (i + 1) ≤ n) := ⟨h0, by unfold prW at h0; by_cases hq : n < a + 1 + 65 * i + 65; · rw [if_pos hq] at h0; omega
                                                                                                              · omega⟩
       have R5 : Rd w4 r (.slice (some ⟨g, o, none⟩) n c) ((a + 1 + 65 * (i + 1) : Nat) : Int) sList ((a + 1 + 65 * i : Nat) : Int) := by
         rw [show a + 1 + 65 * (i + 1) = a + 1 + 65 * i + 65 from by omega]
         exact R4
       have HFI : Hid (Instr.fill (fun i => some (i * 65, 65)) ((Array.range (1 * 65)).map ((Value.agg (cmC 0 zN zN)).cells[· % (Value.agg (cmC 0 zN zN)).cells.size]!)) [(0, .agg (cmA F (a + 1 + 65 * i)))] = some (cmA F (a + 1 + 65 * i))) := fillCm _ _ _
       have HRS : Hid (∀ w' g, Blk w' g (cmA F (a + 1 + 65 * i)) 27 → Rl w' 65 (.slice (some ⟨g, 0, none⟩) 1 1) 1 (fun _ => lsF F (a + 1) i)) := fun w' g hB => row_rl (by rw [lsF_arr]; exact hB) (lsF_len F (a + 1) i).1 (lsF_len F (a + 1) i).2
       obtain ⟨CX, hCX⟩ : ∃ z, cmA F (a + 1 + 65 * i) = z := ⟨_, rfl⟩
       rw [hCX] at HFI HRS ⊢
       have HBY : Hid ((i + 1) * 72 ≤ 140737488355328 ∧ i + 1 ≤ 9223372036854775807) := by have := HX.out; have := HII.out; exact ⟨by omega, by omega⟩
       clear hCX k4 R R4 h0 B
       go_wp2_with (first
         | (with_reducible refine wpList_append_r ?_ (.tmp 10) (.tmp 13) 28 ?_ 27 ic (.agg (cmC 0 zN zN)) 65 72 Tryz.underlying28 hic hicz hics hicb ?_ ?_ w.heap.size (.slice p i cc) (.slice (some ⟨sb, 0, none⟩) 1 1) i 1 (lsF F (a + 1)) (fun _ => lsF F (a + 1) i) ?_ ?_ O5 RS ?_ HBY.out.1 HBY.out.2 HC5.out ?_
            · rfl
            · rfl
            · rfl
            · decide
            · rfl
            · rfl
            · decide
            intro ng nc w6 O6 k6 _ _)
         | (with_reducible refine bslice_w ?_ 28 27 (.tmp 12) ?_ (.agg CX) ?_ CX ic (.agg (cmC 0 zN zN)) Tryz.underlying28 hic hicz 65 hics ?_ ?_ HFI.out ?_
            · rfl
            · rfl
            · rfl
            · decide
            · decide
            intro sb w5 hsb BS k5; have O5 := O4.chg k5 (by simp); have RS := HRS.out _ _ BS; have HC5 : Hid (w.heap.size ≤ w5.heap.size) := Nat.le_trans HC4.out k5.size))
       have C6 : Chg w w6 [r] := (C4.trans1 k5.wide).trans k6 (fun y hy => Or.inr (O5.1.lt y (by unfold ob at hy; simpa using hy)).1)
       have R6 : Rd w6 r (.slice (some ⟨g, o, none⟩) n c) ((a + 1 + 65 * (i + 1) : Nat) : Int) sList ((a + 1 + 65 * i : Nat) : Int) := (R5.chg k5 (by simp)).chg k6 (fun hm => by have := (O5.1.lt r (by unfold ob at hm; simpa using hm)).1; have := HL.out; omega)
       exact ⟨⟨i + 1, by have := HII.out; omega, by go_num, ⟨_, _, rfl⟩, O6.cong65 (catR_one65 F (a + 1) i), ⟨_, R6⟩, C6, HP0.out.2, fun j hj => by
         by_cases h : j < i
         · exact HJ.out j h
         · rw [show j = i from by omega]; exact HP0.out.1⟩, by have := HII.out; simp [intOf]; omega⟩
     · exact ⟨rfl, Or.inr ⟨HX.out.2.2.1, Or.inr ⟨i, by rw [HX.out.1]; exact HII.out, HJ.out, h0, ⟨v4, rfl, hf.lw HC.out.size⟩, HC.out.trans1 k4⟩⟩⟩
   · have hI : ¬ (i : Int) < (x : Int) := by omega
     obtain rfl : i = x := by omega
     clear hi h8
     go_wp2_with fail
     go_ret
     exact Or.inr ⟨HX.out.2.2.1, Or.inl ⟨by rw [HX.out.1]; exact HJ.out, _, _, rfl, by rw [HX.out.1]; exact O, by rw [HX.out.1]; exact R, C⟩⟩
end Go.Proofs.YtgjclegpnbjlkaaGreatDoor
