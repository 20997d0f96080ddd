/- wire: checkPackage. -/
import Derived.Test.YtgfeopingompdaaGreatDoorW5
set_option linter.unusedVariables false
set_option linter.unusedSimpArgs false
set_option linter.unnecessarySimpa false
namespace Go.Proofs.YtgfeopingompdaaGreatDoor
open Go.RowKit

def sList : ByteArray := ⟨#[108, 105, 115, 116]⟩
def sText : ByteArray := ⟨#[116, 101, 120, 116]⟩
/-- A list of commitments. -/
def cF (d : Nat → Int) (h b : Nat → Nat → Nat) : Nat → List Value := fun j => .int .i64 (d j) :: (yL 32 (h j) ++ yL 32 (b j))
theorem cF_ok (N : Nat) (d : Nat → Int) (h b : Nat → Nat → Nat) : Rok 65 N (cF d h b) := fun j _ => ⟨by simp [cF, yL], fun v hv => by
  simp only [cF, List.mem_cons, List.mem_append] at hv
  rcases hv with rfl | hv | hv
  · rfl
  · exact yL_one 32 (h j) v hv
  · exact yL_one 32 (b j) v hv⟩
def Cl (w : World) (v : Value) (N : Nat) (d : Nat → Int) (h b : Nat → Nat → Nat) : Prop := Rl w 65 v N (cF d h b) ∧ ∀ j, j < N → ∀ i, i < 32 → h j i < 256 ∧ b j i < 256
theorem Cl.chg {w w' : World} {v : Value} {N : Nat} {d : Nat → Int} {h b : Nat → Nat → Nat} (H : Cl w v N d h b) (hc : Chg w w' []) : Cl w' v N d h b := ⟨H.1.chg hc (fun _ _ _ _ _ hg => by simp at hg), H.2⟩
def zN : Nat → Nat := fun _ => 0
theorem zeroCm : (Tryz.prog.info? 27).bind (·.zero) = some (.agg (cmC 0 zN zN)) := by kernel_rfl
theorem cmInfo : (Tryz.prog.info? 27).map (·.size) = some 65 := by kernel_rfl
theorem cmC_one (d : Int) (h b : Nat → Nat) : (cmC d h b).all (·.oneCell') = true := all_oneCell_toArray (cF_ok 1 (fun _ => d) (fun _ => h) (fun _ => b) 0 (by omega)).2
/-- What checkPackage answers. -/
def PkP (N : Nat) (d : Nat → Int) (M base : Nat) (w' : World) (v : Value) : Prop :=
  (255 < N ∧ Ft w' base v sList 0 8) ∨ (N ≤ 255 ∧ ∃ j : Nat, j < N ∧ ¬ okID (d j) ∧ (∀ i, i < j → okID (d i)) ∧ Ft w' base v sList (j : Int) 4) ∨
  (N ≤ 255 ∧ (∀ j, j < N → okID (d j)) ∧ ((1048575 < M ∧ Ft w' base v sText 0 10) ∨ (M ≤ 1048575 ∧ v = .nilIface)))
set_option maxHeartbeats 8000000 in
set_option maxRecDepth 100000 in
theorem checkPackage_s (v : Value) (N : Nat) (d : Nat → Int) (h b : Nat → Nat → Nat) (p : Option Addr) (M c : Nat) (w : World) (hL : Cl w v N d h b) :
    Calls Tryz.prog 79 #[v, .slice p M c] w fun e w' => ∃ r, e = .returned r ∧ PkP N d M w.heap.size w' r ∧ Chg w w' [] := by
  obtain ⟨pv, cv, rfl, hp⟩ := hL.1.form
  have HP : Hid (∀ i, i < N → ∃ g o, pv = some ⟨g, o, none⟩ ∧ g < w.heap.size ∧ w.rangeAt g (o + i * 65) (cF d h b i)) := hp
  clear hL hp
  by_cases hN : 255 < N
  · have hi : (255 : Int) < (N : Int) := by omega
    have HH : Hid (255 < N) := hN
    clear hN
    go_enter Tryz.func79, Tryz.ntmps79
    go_wp2_with fail
    go_ret
    exact ⟨_, rfl, Or.inl ⟨HH.out, _, rfl, Nat.le_refl _, Blk.new _ _ _⟩, (Chg.refl _ _).alloc _⟩
  · have hi : ¬ (255 : Int) < (N : Int) := by omega
    have HH : Hid (N ≤ 255) := by show N ≤ 255; omega
    clear hN
    go_enter Tryz.func79, Tryz.ntmps79
    go_wp2_with fail
    --CUT0
    go_loopw [15] (fun t wr => ∃ i : Nat, i ≤ N ∧ t = .int .i64 (i : Int) ∧ (∀ j, j < i → okID (d j)) ∧ Chg w wr []) (fun t _ => ((N : Int) - intOf t).toNat)
    case atStart => exact ⟨0, by omega, rfl, fun j hj => by omega, Chg.refl _ _⟩
    case round =>
      obtain ⟨i, hiN, rfl, hok, C⟩ := hrel
      have HO : Hid (∀ j, j < i → okID (d j)) := hok
      clear hok
      by_cases h8 : i = N
      · subst h8
        have hI : ¬ (i : Int) < (i : Int) := by omega
        by_cases hM : 1048575 < M
        · have hm : (1048575 : Int) < (M : Int) := by omega
          have HM : Hid (1048575 < M) := hM
          clear hM
          go_wp2_with fail
          go_ret
          exact ⟨_, rfl, Or.inr (Or.inr ⟨HH.out, HO.out, Or.inl ⟨HM.out, _, rfl, C.size, Blk.new _ _ _⟩⟩), C.alloc _⟩
        · have hm : ¬ (1048575 : Int) < (M : Int) := by omega
          have HM : Hid (M ≤ 1048575) := by show M ≤ 1048575; omega
          clear hM
          go_wp2_with fail
          go_ret
          exact ⟨_, rfl, Or.inr (Or.inr ⟨HH.out, HO.out, Or.inr ⟨HM.out, rfl⟩⟩), C⟩
      · have hlt : i < N := by omega
        have hI : (i : Int) < (N : Int) := by omega
        have hi0 : (0 : Int) ≤ (i : Int) := by omega
        have ew : IntKind.i64.wrap ((i : Int) + 1) = (i : Int) + 1 := by have := HH.out; rw [IntKind.wrap_i64]; omega
        have HI : Hid (i < N) := hlt
        have HM : Hid (((N : Int) - intOf (.int .i64 ((i : Int) + 1))).toNat < ((N : Int) - intOf (.int .i64 (i : Int))).toNat) := by show ((N : Int) - intOf (.int .i64 ((i : Int) + 1))).toNat < ((N : Int) - intOf (.int .i64 (i : Int))).toNat; simp [intOf] <;> omega
        obtain ⟨g, o, rfl, hg, hr⟩ := HP.out i hlt
        have hr2 := rangeAt_chg hr hg C (by simp)
        have q := isSigner_s (d i)
        clear h8 hlt hiN hr
        by_cases hd : 1 ≤ d i ∧ d i ≤ 255
        · rw [decide_eq_true hd] at q
          have HD : Hid (okID (d i)) := hd
          clear hd
          go_wp2_with (first
            | (refine wpList_load_mid rfl 27 _ rfl g (o + i * 65) rfl (cF d h b i) _ hr2 Tryz.underlying27 rfl (by rw [(cF_ok (i + 1) d h b i (by omega)).1]; exact cmInfo) ?_)
            | (with_reducible refine alloc_w rfl 27 rfl (.agg (cmC 0 zN zN)) zeroCm (cmC 0 zN zN) rfl ?_; intro x w1 hx B k1)
            | (refine store_w B rfl 27 _ _ (cmC (d i) (h i) (b i)) rfl rfl rfl (by rw [cmC_size]; exact cmInfo) (by rw [cmC_size, cmC_size]) (cmC_one _ _ _) ?_; intro w2 B2 k2; have c0 := cm_id B2))
          --CUT1
          refine (q _).mono ?_
          rintro e w3 ⟨rfl, rfl⟩
          go_wp2_with fail
          refine ⟨⟨i + 1, HI.out, by go_num, fun j hj => ?_, (C.trans1 k1).new k2 (by have := C.size; omega)⟩, HM.out⟩
          by_cases hji : j = i
          · rw [hji]; exact HD.out
          · exact HO.out j (by omega)
        · rw [decide_eq_false hd] at q
          have HD : Hid (¬ okID (d i)) := hd
          clear hd
          go_wp2_with (first
            | (refine wpList_load_mid rfl 27 _ rfl g (o + i * 65) rfl (cF d h b i) _ hr2 Tryz.underlying27 rfl (by rw [(cF_ok (i + 1) d h b i (by omega)).1]; exact cmInfo) ?_)
            | (with_reducible refine alloc_w rfl 27 rfl (.agg (cmC 0 zN zN)) zeroCm (cmC 0 zN zN) rfl ?_; intro x w1 hx B k1)
            | (refine store_w B rfl 27 _ _ (cmC (d i) (h i) (b i)) rfl rfl rfl (by rw [cmC_size]; exact cmInfo) (by rw [cmC_size, cmC_size]) (cmC_one _ _ _) ?_; intro w2 B2 k2; have c0 := cm_id B2))
          refine (q _).mono ?_
          rintro e w3 ⟨rfl, rfl⟩
          have C2 : Chg w w3 [] := (C.trans1 k1).new k2 (by have := C.size; omega)
          go_wp2_with fail
          go_ret
          exact ⟨_, rfl, Or.inr (Or.inl ⟨HH.out, i, HI.out, HD.out, HO.out, _, rfl, C2.size, Blk.new _ _ _⟩), C2.alloc _⟩
end Go.Proofs.YtgfeopingompdaaGreatDoor
