/- rimeref10.Check of any message: its first fault. -/
import Derived.Test.YtgjclegpnbjlkaaGreatDoorMwI
import Derived.Test.YtgjclegpnbjlkaaGreatDoorMwK
import Derived.Test.YtgjclegpnbjlkaaGreatDoorMwS
import Derived.Deep.DeepCutAuto
set_option linter.unusedVariables false
set_option linter.unusedSimpArgs false
set_option linter.unnecessarySimpa false
namespace Go.Proofs.YtgjclegpnbjlkaaGreatDoor
open Go.RowKit

def s0E : ByteArray := ⟨#[]⟩
def zRF : Array Value := #[.string s0E, .int .i64 0, .int .i64 0]
theorem zeroRF2 : (Tryz.prog.info? 59).bind (·.zero) = some (.agg zRF) := by kernel_rfl
theorem ftC_one (s : ByteArray) (a y : Nat) : (ftC s a y).all (·.oneCell') = true := all_oneCell_toArray (fun v hv => by
  simp only [List.mem_cons, List.not_mem_nil, or_false] at hv
  rcases hv with rfl | rfl | rfl <;> rfl)
theorem s0E_nil : s0E.toList = [] := by kernel_rfl
theorem ne_s0 {s : ByteArray} (h : s.data.toList ≠ []) : s.toList ≠ s0E.toList := by rw [ByteArray.toList_eq, ByteArray.toList_eq]; exact h
/-- What the document's Check answers. -/
def CrP (m : Ms) (N : Nat) (d : Nat → Int) (M : Nat) (s : ByteArray) (a y : Nat) : Prop := (EnG m N d M ∧ s = s0E ∧ a = 0 ∧ y = 0) ∨ EnP m N d M s a y
set_option maxHeartbeats 40000000 in
set_option maxRecDepth 100000 in
theorem Check_r (m : Ms) (N : Nat) (d : Nat → Int) (h b : Nat → Nat → Nat) (M : Nat) (ft : Nat → Nat) (w : World) (hL : Cl w m.list N d h b) (hT : Sl w m.text M ft) :
    Calls Tryz.prog 34 #[.agg (msC m)] w fun e w' => ∃ s a y, e = .returned (.agg (ftC s a y)) ∧ CrP m N d M s a y ∧ Chg w w' [] := by
  obtain ⟨pt, ct, hx⟩ : ∃ p c, m.text = .slice p M c := by
    rcases hT with ⟨h0, h1⟩ | ⟨g, o, c, h1, _⟩
    · exact ⟨none, 0, by rw [h1, h0]⟩
    · exact ⟨_, _, h1⟩
  have HNB : Hid (N ≤ 9223372036854775807) := by
    rcases hL.1.2 with ⟨h, _⟩ | ⟨_, _, _, _, a, b, _⟩
    · show N ≤ 9223372036854775807; omega
    · show N ≤ 9223372036854775807; omega
  obtain ⟨pv, cv, hlv, hp⟩ := hL.1.form
  have HP : Hid (∀ i, i < N → ∃ g o, pv = some ⟨g, o, none⟩ ∧ g < w.heap.size ∧ w.rangeAt g (o + i * 65) (cF d h b i)) := hp
  clear hL hp hT
  go_enter Tryz.func34, Tryz.ntmps34
  obtain ⟨C, hC⟩ : ∃ C, msC m = C := ⟨_, rfl⟩
  rw [hC]
  go_upto_region 1 with (first
    | (with_reducible refine alloc_w rfl 59 rfl (.agg zRF) zeroRF2 zRF rfl ?_; intro x w2 hx2 BX k2)
    | (refine box_w rfl 35 _ rfl C rfl ?_; intro g w1 hg B k1))
  have B2 := B.chg k2 (by simp)
  rw [← hC] at B2
  have c0 := ms_at B2 0 _ (ms_kind _)
  have c33 := ms_at B2 33 _ (ms_fr _)
  have c34 := ms_at B2 34 _ (ms_to _)
  have c35 := ms_at B2 35 _ ((msL_pair m 0 (by omega)).trans (cmL_0 _ _ _))
  have c100 := ms_at B2 100 _ (ms_list _)
  have c101 := ms_at B2 101 _ (ms_text _)
  have c230 := ms_at B2 230 _ (ms_code _)
  rw [hlv] at c100
  rw [hx] at c101
  have K2 := k1.trans1 k2
  have HXN : Hid (w.heap.size ≤ x) := by have := k1.size; show w.heap.size ≤ x; omega
  clear B hg k1 k2 hx2 hC hlv hx B2
  by_cases h1 : m.kind < 1
  · have PP : Hid (CrP m N d M sKind 0 152) := Or.inr (Or.inl ⟨by unfold okKind; omega, rfl, rfl, rfl⟩)
    go_wp2_with (refine store_w BX rfl 59 _ _ (ftC sKind 0 152) rfl rfl rfl (by exact rFltInfo) (by rfl) (ftC_one _ _ _) ?_; intro w3 BX3 k3)
    exact bodyPost_ret (results_cell_row Tryz.results34 _ _ x 59 (ftC sKind 0 152) (0, 0) _ rfl BX3 Tryz.underlying59 rfl (by exact rFltInfo)) rfl ⟨sKind, 0, 152, rfl, PP.out, K2.new k3 HXN.out⟩
  by_cases h2 : 6 < m.kind
  · have PP : Hid (CrP m N d M sKind 0 152) := Or.inr (Or.inl ⟨by unfold okKind; omega, rfl, rfl, rfl⟩)
    go_wp2_with (refine store_w BX rfl 59 _ _ (ftC sKind 0 152) rfl rfl rfl (by exact rFltInfo) (by rfl) (ftC_one _ _ _) ?_; intro w3 BX3 k3)
    exact bodyPost_ret (results_cell_row Tryz.results34 _ _ x 59 (ftC sKind 0 152) (0, 0) _ rfl BX3 Tryz.underlying59 rfl (by exact rFltInfo)) rfl ⟨sKind, 0, 152, rfl, PP.out, K2.new k3 HXN.out⟩
  by_cases h3 : m.fr < 0
  · have PP : Hid (CrP m N d M sFrom 0 4) := Or.inr (Or.inr (Or.inl ⟨by unfold okKind; omega, by unfold okPt; omega, rfl, rfl, rfl⟩))
    go_wp2_with (refine store_w BX rfl 59 _ _ (ftC sFrom 0 4) rfl rfl rfl (by exact rFltInfo) (by rfl) (ftC_one _ _ _) ?_; intro w3 BX3 k3)
    exact bodyPost_ret (results_cell_row Tryz.results34 _ _ x 59 (ftC sFrom 0 4) (0, 0) _ rfl BX3 Tryz.underlying59 rfl (by exact rFltInfo)) rfl ⟨sFrom, 0, 4, rfl, PP.out, K2.new k3 HXN.out⟩
  by_cases h3b : 255 < m.fr
  · have PP : Hid (CrP m N d M sFrom 0 4) := Or.inr (Or.inr (Or.inl ⟨by unfold okKind; omega, by unfold okPt; omega, rfl, rfl, rfl⟩))
    go_wp2_with (refine store_w BX rfl 59 _ _ (ftC sFrom 0 4) rfl rfl rfl (by exact rFltInfo) (by rfl) (ftC_one _ _ _) ?_; intro w3 BX3 k3)
    exact bodyPost_ret (results_cell_row Tryz.results34 _ _ x 59 (ftC sFrom 0 4) (0, 0) _ rfl BX3 Tryz.underlying59 rfl (by exact rFltInfo)) rfl ⟨sFrom, 0, 4, rfl, PP.out, K2.new k3 HXN.out⟩
  by_cases h5 : m.to < 0
  · have PP : Hid (CrP m N d M sTo 0 4) := Or.inr (Or.inr (Or.inr (Or.inl ⟨by unfold okKind; omega, by unfold okPt; omega, by unfold okPt; omega, rfl, rfl, rfl⟩)))
    go_wp2_with (refine store_w BX rfl 59 _ _ (ftC sTo 0 4) rfl rfl rfl (by exact rFltInfo) (by rfl) (ftC_one _ _ _) ?_; intro w3 BX3 k3)
    exact bodyPost_ret (results_cell_row Tryz.results34 _ _ x 59 (ftC sTo 0 4) (0, 0) _ rfl BX3 Tryz.underlying59 rfl (by exact rFltInfo)) rfl ⟨sTo, 0, 4, rfl, PP.out, K2.new k3 HXN.out⟩
  by_cases h5b : 255 < m.to
  · have PP : Hid (CrP m N d M sTo 0 4) := Or.inr (Or.inr (Or.inr (Or.inl ⟨by unfold okKind; omega, by unfold okPt; omega, by unfold okPt; omega, rfl, rfl, rfl⟩)))
    go_wp2_with (refine store_w BX rfl 59 _ _ (ftC sTo 0 4) rfl rfl rfl (by exact rFltInfo) (by rfl) (ftC_one _ _ _) ?_; intro w3 BX3 k3)
    exact bodyPost_ret (results_cell_row Tryz.results34 _ _ x 59 (ftC sTo 0 4) (0, 0) _ rfl BX3 Tryz.underlying59 rfl (by exact rFltInfo)) rfl ⟨sTo, 0, 4, rfl, PP.out, K2.new k3 HXN.out⟩
  have OK : Hid (okKind m.kind ∧ okPt m.fr ∧ okPt m.to) := ⟨by unfold okKind; omega, by unfold okPt; omega, by unfold okPt; omega⟩
  obtain k | k | k | k | k | k : m.kind = 1 ∨ m.kind = 2 ∨ m.kind = 3 ∨ m.kind = 4 ∨ m.kind = 5 ∨ m.kind = 6 := by omega
  · rw [k] at c0
    clear h1 h2
    have PP : Hid (CrP m N d M s0E 0 0) := Or.inl ⟨⟨OK.out.1, OK.out.2.1, OK.out.2.2, fun q => by omega, fun q => by omega, fun q => by omega⟩, rfl, rfl, rfl⟩
    clear k
    go_wp2_with (refine store_w BX rfl 59 _ _ (ftC s0E 0 0) rfl rfl rfl (by exact rFltInfo) (by rfl) (ftC_one _ _ _) ?_; intro w3 BX3 k3)
    exact bodyPost_ret (results_cell_row Tryz.results34 _ _ x 59 (ftC s0E 0 0) (0, 0) _ rfl BX3 Tryz.underlying59 rfl (by exact rFltInfo)) rfl ⟨s0E, 0, 0, rfl, PP.out, K2.new k3 HXN.out⟩
  · rw [k] at c0
    clear h1 h2
    by_cases i1 : m.id < 1
    · have PP : Hid (CrP m N d M sPair 0 4) := Or.inr (Or.inr (Or.inr (Or.inr ⟨OK.out.1, OK.out.2.1, OK.out.2.2, Or.inl ⟨Or.inl k, by unfold okID; omega, rfl, rfl, rfl⟩⟩)))
      clear k
      go_wp2_with (refine store_w BX rfl 59 _ _ (ftC sPair 0 4) rfl rfl rfl (by exact rFltInfo) (by rfl) (ftC_one _ _ _) ?_; intro w3 BX3 k3)
      exact bodyPost_ret (results_cell_row Tryz.results34 _ _ x 59 (ftC sPair 0 4) (0, 0) _ rfl BX3 Tryz.underlying59 rfl (by exact rFltInfo)) rfl ⟨sPair, 0, 4, rfl, PP.out, K2.new k3 HXN.out⟩
    by_cases i2 : 255 < m.id
    · have PP : Hid (CrP m N d M sPair 0 4) := Or.inr (Or.inr (Or.inr (Or.inr ⟨OK.out.1, OK.out.2.1, OK.out.2.2, Or.inl ⟨Or.inl k, by unfold okID; omega, rfl, rfl, rfl⟩⟩)))
      clear k
      go_wp2_with (refine store_w BX rfl 59 _ _ (ftC sPair 0 4) rfl rfl rfl (by exact rFltInfo) (by rfl) (ftC_one _ _ _) ?_; intro w3 BX3 k3)
      exact bodyPost_ret (results_cell_row Tryz.results34 _ _ x 59 (ftC sPair 0 4) (0, 0) _ rfl BX3 Tryz.underlying59 rfl (by exact rFltInfo)) rfl ⟨sPair, 0, 4, rfl, PP.out, K2.new k3 HXN.out⟩
    have PP : Hid (CrP m N d M s0E 0 0) := Or.inl ⟨⟨OK.out.1, OK.out.2.1, OK.out.2.2, fun _ => by unfold okID; omega, fun q => by omega, fun q => by omega⟩, rfl, rfl, rfl⟩
    clear k
    go_wp2_with (refine store_w BX rfl 59 _ _ (ftC s0E 0 0) rfl rfl rfl (by exact rFltInfo) (by rfl) (ftC_one _ _ _) ?_; intro w3 BX3 k3)
    exact bodyPost_ret (results_cell_row Tryz.results34 _ _ x 59 (ftC s0E 0 0) (0, 0) _ rfl BX3 Tryz.underlying59 rfl (by exact rFltInfo)) rfl ⟨s0E, 0, 0, rfl, PP.out, K2.new k3 HXN.out⟩
  · rw [k] at c0
    clear h1 h2
    by_cases n1 : 255 < N
    · have PP : Hid (CrP m N d M sList 0 8) := Or.inr (Or.inr (Or.inr (Or.inr ⟨OK.out.1, OK.out.2.1, OK.out.2.2, Or.inr (Or.inl ⟨k, Or.inl ⟨n1, rfl, rfl, rfl⟩⟩)⟩)))
      have nI : (255 : Int) < (N : Int) := by omega
      clear n1 k
      go_wp2_with (refine store_w BX rfl 59 _ _ (ftC sList 0 8) rfl rfl rfl (by exact rFltInfo) (by rfl) (ftC_one _ _ _) ?_; intro w3 BX3 k3)
      exact bodyPost_ret (results_cell_row Tryz.results34 _ _ x 59 (ftC sList 0 8) (0, 0) _ rfl BX3 Tryz.underlying59 rfl (by exact rFltInfo)) rfl ⟨sList, 0, 8, rfl, PP.out, K2.new k3 HXN.out⟩
    have HH : Hid (N ≤ 255) := by show N ≤ 255; omega
    have nI : ¬ (255 : Int) < (N : Int) := by omega
    have HK : Hid (m.kind = 3) := k
    clear n1 k
    go_wp2_with fail
    go_loopw [3] (fun t wr => ∃ i : Nat, (i ≤ N ∧ ∀ j, j < i → okID (d j)) ∧ t = .int .i64 (i : Int) ∧ wr = w2) (fun t _ => ((N : Int) - intOf t).toNat)
    case atStart => exact ⟨0, ⟨by omega, fun j hj => by omega⟩, rfl, rfl⟩
    case round =>
      obtain ⟨i, ⟨hiN, hok⟩, rfl, rfl⟩ := hrel
      have HO : Hid (∀ j, j < i → okID (d j)) := hok
      clear hok
      by_cases h8 : i = N
      · subst h8
        have hI : ¬ (i : Int) < (i : Int) := by omega
        by_cases hM : 1048575 < M
        · have hm : (1048575 : Int) < (M : Int) := by omega
          have PP : Hid (CrP m i d M sText 0 10) := Or.inr (Or.inr (Or.inr (Or.inr ⟨OK.out.1, OK.out.2.1, OK.out.2.2, Or.inr (Or.inl ⟨HK.out, Or.inr (Or.inr ⟨HH.out, HO.out, hM, rfl, rfl, rfl⟩)⟩)⟩)))
          clear hM
          go_wp2_with (refine store_w BX rfl 59 _ _ (ftC sText 0 10) rfl rfl rfl (by exact rFltInfo) (by rfl) (ftC_one _ _ _) ?_; intro w3 BX3 k3)
          exact bodyPost_ret (results_cell_row Tryz.results34 _ _ x 59 (ftC sText 0 10) (0, 0) _ rfl BX3 Tryz.underlying59 rfl (by exact rFltInfo)) rfl ⟨sText, 0, 10, rfl, PP.out, K2.new k3 HXN.out⟩
        · have hm : ¬ (1048575 : Int) < (M : Int) := by omega
          have PP : Hid (CrP m i d M s0E 0 0) := Or.inl ⟨⟨OK.out.1, OK.out.2.1, OK.out.2.2, fun q => by have := HK.out; omega, fun _ => ⟨HH.out, HO.out, by omega⟩, fun q => by have := HK.out; omega⟩, rfl, rfl, rfl⟩
          clear hM
          go_wp2_with (refine store_w BX rfl 59 _ _ (ftC s0E 0 0) rfl rfl rfl (by exact rFltInfo) (by rfl) (ftC_one _ _ _) ?_; intro w3 BX3 k3)
          exact bodyPost_ret (results_cell_row Tryz.results34 _ _ x 59 (ftC s0E 0 0) (0, 0) _ rfl BX3 Tryz.underlying59 rfl (by exact rFltInfo)) rfl ⟨s0E, 0, 0, rfl, PP.out, K2.new k3 HXN.out⟩
      · have hlt : i < N := by omega
        have hI : (i : Int) < (N : Int) := by omega
        have hi0 : (0 : Int) ≤ (i : Int) := by omega
        have ew : IntKind.i64.wrap ((i : Int) + 1) = (i : Int) + 1 := by have := HH.out; rw [IntKind.wrap_i64]; omega
        have HI : Hid (i < N) := hlt
        have HM : Hid (((N : Int) - intOf (.int .i64 ((i : Int) + 1))).toNat < ((N : Int) - intOf (.int .i64 (i : Int))).toNat) := by show ((N : Int) - intOf (.int .i64 ((i : Int) + 1))).toNat < ((N : Int) - intOf (.int .i64 (i : Int))).toNat; simp [intOf] <;> omega
        obtain ⟨gl, ol, rfl, hgl, hr⟩ := HP.out i hlt
        have hr2 := rangeAt_chg hr hgl K2 (by simp)
        have ci : wr.cell? ⟨gl, ol + i * 65, none⟩ = some (.int .i64 (d i)) := by simpa using hr2 0 _ rfl
        clear h8 hlt hiN hr hr2 hgl
        by_cases d1 : d i < 1
        · have PP : Hid (CrP m N d M sList i 4) := Or.inr (Or.inr (Or.inr (Or.inr ⟨OK.out.1, OK.out.2.1, OK.out.2.2, Or.inr (Or.inl ⟨HK.out, Or.inr (Or.inl ⟨HH.out, HI.out, by unfold okID; omega, HO.out, rfl, rfl⟩)⟩)⟩)))
          go_wp2_with (refine store_w BX rfl 59 _ _ (ftC sList i 4) rfl rfl rfl (by exact rFltInfo) (by rfl) (ftC_one _ _ _) ?_; intro w3 BX3 k3)
          exact bodyPost_ret (results_cell_row Tryz.results34 _ _ x 59 (ftC sList i 4) (0, 0) _ rfl BX3 Tryz.underlying59 rfl (by exact rFltInfo)) rfl ⟨sList, i, 4, rfl, PP.out, K2.new k3 HXN.out⟩
        by_cases d2 : 255 < d i
        · have PP : Hid (CrP m N d M sList i 4) := Or.inr (Or.inr (Or.inr (Or.inr ⟨OK.out.1, OK.out.2.1, OK.out.2.2, Or.inr (Or.inl ⟨HK.out, Or.inr (Or.inl ⟨HH.out, HI.out, by unfold okID; omega, HO.out, rfl, rfl⟩)⟩)⟩)))
          go_wp2_with (refine store_w BX rfl 59 _ _ (ftC sList i 4) rfl rfl rfl (by exact rFltInfo) (by rfl) (ftC_one _ _ _) ?_; intro w3 BX3 k3)
          exact bodyPost_ret (results_cell_row Tryz.results34 _ _ x 59 (ftC sList i 4) (0, 0) _ rfl BX3 Tryz.underlying59 rfl (by exact rFltInfo)) rfl ⟨sList, i, 4, rfl, PP.out, K2.new k3 HXN.out⟩
        have HD : Hid (okID (d i)) := ⟨by omega, by omega⟩
        go_wp2_with fail
        refine ⟨⟨i + 1, ⟨HI.out, fun j hj => ?_⟩, by go_num, trivial⟩, HM.out⟩
        by_cases hji : j = i
        · rw [hji]; exact HD.out
        · exact HO.out j (by omega)
  · rw [k] at c0
    clear h1 h2
    by_cases i1 : m.id < 1
    · have PP : Hid (CrP m N d M sPair 0 4) := Or.inr (Or.inr (Or.inr (Or.inr ⟨OK.out.1, OK.out.2.1, OK.out.2.2, Or.inl ⟨Or.inr k, by unfold okID; omega, rfl, rfl, rfl⟩⟩)))
      clear k
      go_wp2_with (refine store_w BX rfl 59 _ _ (ftC sPair 0 4) rfl rfl rfl (by exact rFltInfo) (by rfl) (ftC_one _ _ _) ?_; intro w3 BX3 k3)
      exact bodyPost_ret (results_cell_row Tryz.results34 _ _ x 59 (ftC sPair 0 4) (0, 0) _ rfl BX3 Tryz.underlying59 rfl (by exact rFltInfo)) rfl ⟨sPair, 0, 4, rfl, PP.out, K2.new k3 HXN.out⟩
    by_cases i2 : 255 < m.id
    · have PP : Hid (CrP m N d M sPair 0 4) := Or.inr (Or.inr (Or.inr (Or.inr ⟨OK.out.1, OK.out.2.1, OK.out.2.2, Or.inl ⟨Or.inr k, by unfold okID; omega, rfl, rfl, rfl⟩⟩)))
      clear k
      go_wp2_with (refine store_w BX rfl 59 _ _ (ftC sPair 0 4) rfl rfl rfl (by exact rFltInfo) (by rfl) (ftC_one _ _ _) ?_; intro w3 BX3 k3)
      exact bodyPost_ret (results_cell_row Tryz.results34 _ _ x 59 (ftC sPair 0 4) (0, 0) _ rfl BX3 Tryz.underlying59 rfl (by exact rFltInfo)) rfl ⟨sPair, 0, 4, rfl, PP.out, K2.new k3 HXN.out⟩
    have PP : Hid (CrP m N d M s0E 0 0) := Or.inl ⟨⟨OK.out.1, OK.out.2.1, OK.out.2.2, fun _ => by unfold okID; omega, fun q => by omega, fun q => by omega⟩, rfl, rfl, rfl⟩
    clear k
    go_wp2_with (refine store_w BX rfl 59 _ _ (ftC s0E 0 0) rfl rfl rfl (by exact rFltInfo) (by rfl) (ftC_one _ _ _) ?_; intro w3 BX3 k3)
    exact bodyPost_ret (results_cell_row Tryz.results34 _ _ x 59 (ftC s0E 0 0) (0, 0) _ rfl BX3 Tryz.underlying59 rfl (by exact rFltInfo)) rfl ⟨s0E, 0, 0, rfl, PP.out, K2.new k3 HXN.out⟩
  · rw [k] at c0
    clear h1 h2
    by_cases i1 : m.code < 1
    · have PP : Hid (CrP m N d M sCode 0 1) := Or.inr (Or.inr (Or.inr (Or.inr ⟨OK.out.1, OK.out.2.1, OK.out.2.2, Or.inr (Or.inr ⟨k, by unfold okCode; omega, rfl, rfl, rfl⟩)⟩)))
      clear k
      go_wp2_with (refine store_w BX rfl 59 _ _ (ftC sCode 0 1) rfl rfl rfl (by exact rFltInfo) (by rfl) (ftC_one _ _ _) ?_; intro w3 BX3 k3)
      exact bodyPost_ret (results_cell_row Tryz.results34 _ _ x 59 (ftC sCode 0 1) (0, 0) _ rfl BX3 Tryz.underlying59 rfl (by exact rFltInfo)) rfl ⟨sCode, 0, 1, rfl, PP.out, K2.new k3 HXN.out⟩
    by_cases i2 : 65535 < m.code
    · have PP : Hid (CrP m N d M sCode 0 1) := Or.inr (Or.inr (Or.inr (Or.inr ⟨OK.out.1, OK.out.2.1, OK.out.2.2, Or.inr (Or.inr ⟨k, by unfold okCode; omega, rfl, rfl, rfl⟩)⟩)))
      clear k
      go_wp2_with (refine store_w BX rfl 59 _ _ (ftC sCode 0 1) rfl rfl rfl (by exact rFltInfo) (by rfl) (ftC_one _ _ _) ?_; intro w3 BX3 k3)
      exact bodyPost_ret (results_cell_row Tryz.results34 _ _ x 59 (ftC sCode 0 1) (0, 0) _ rfl BX3 Tryz.underlying59 rfl (by exact rFltInfo)) rfl ⟨sCode, 0, 1, rfl, PP.out, K2.new k3 HXN.out⟩
    have PP : Hid (CrP m N d M s0E 0 0) := Or.inl ⟨⟨OK.out.1, OK.out.2.1, OK.out.2.2, fun q => by omega, fun q => by omega, fun _ => by unfold okCode; omega⟩, rfl, rfl, rfl⟩
    clear k
    go_wp2_with (refine store_w BX rfl 59 _ _ (ftC s0E 0 0) rfl rfl rfl (by exact rFltInfo) (by rfl) (ftC_one _ _ _) ?_; intro w3 BX3 k3)
    exact bodyPost_ret (results_cell_row Tryz.results34 _ _ x 59 (ftC s0E 0 0) (0, 0) _ rfl BX3 Tryz.underlying59 rfl (by exact rFltInfo)) rfl ⟨s0E, 0, 0, rfl, PP.out, K2.new k3 HXN.out⟩
  · rw [k] at c0
    clear h1 h2
    have PP : Hid (CrP m N d M s0E 0 0) := Or.inl ⟨⟨OK.out.1, OK.out.2.1, OK.out.2.2, fun q => by omega, fun q => by omega, fun q => by omega⟩, rfl, rfl, rfl⟩
    clear k
    go_wp2_with (refine store_w BX rfl 59 _ _ (ftC s0E 0 0) rfl rfl rfl (by exact rFltInfo) (by rfl) (ftC_one _ _ _) ?_; intro w3 BX3 k3)
    exact bodyPost_ret (results_cell_row Tryz.results34 _ _ x 59 (ftC s0E 0 0) (0, 0) _ rfl BX3 Tryz.underlying59 rfl (by exact rFltInfo)) rfl ⟨s0E, 0, 0, rfl, PP.out, K2.new k3 HXN.out⟩
set_option maxHeartbeats 4000000 in
set_option maxRecDepth 100000 in
theorem None_f (s : ByteArray) (a y : Nat) (hs : s.toList ≠ s0E.toList) (w : World) : Calls Tryz.prog 35 #[.agg (ftC s a y)] w fun e w' => e = .returned (.bool false) ∧ Chg w w' [] := by
  have hb : s.toList.isEmpty = false := List.isEmpty_eq_false_iff.2 (fun q => hs (q.trans s0E_nil.symm))
  go_enter Tryz.func35, Tryz.ntmps35
  go_wp2_with (refine box_w rfl 59 _ rfl (ftC s a y) rfl ?_; intro g w1 hg B k1; have c0 := B.cell 0; simp only [ftC] at c0)
  go_ret
  exact ⟨rfl, k1⟩
set_option maxHeartbeats 4000000 in
set_option maxRecDepth 100000 in
theorem None_0 (a y : Nat) (w : World) : Calls Tryz.prog 35 #[.agg (ftC s0E a y)] w fun e w' => e = .returned (.bool true) ∧ Chg w w' [] := by
  have hb : s0E.toList.isEmpty = true := by rw [s0E_nil]; rfl
  go_enter Tryz.func35, Tryz.ntmps35
  go_wp2_with (refine box_w rfl 59 _ rfl (ftC s0E a y) rfl ?_; intro g w1 hg B k1; have c0 := B.cell 0; simp only [ftC] at c0)
  go_ret
  exact ⟨rfl, k1⟩
end Go.Proofs.YtgjclegpnbjlkaaGreatDoor
