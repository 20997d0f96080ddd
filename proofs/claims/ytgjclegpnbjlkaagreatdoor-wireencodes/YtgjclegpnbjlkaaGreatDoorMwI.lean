/- Joined: W7, W11, W43. -/
import Derived.Test.YtgjclegpnbjlkaaGreatDoorMwU
import Derived.Test.YtgjclegpnbjlkaaGreatDoorMwV
/- wire.check. -/
set_option linter.unusedVariables false
set_option linter.unusedSimpArgs false
set_option linter.unnecessarySimpa false
namespace Go.Proofs.YtgjclegpnbjlkaaGreatDoor
open Go.RowKit

def sKind : ByteArray := ⟨#[107, 105, 110, 100]⟩
def sFrom : ByteArray := ⟨#[102, 114, 111, 109]⟩
def sTo : ByteArray := ⟨#[116, 111]⟩
def okKind (k : Int) : Prop := 1 ≤ k ∧ k ≤ 6
def okPt (k : Int) : Prop := 0 ≤ k ∧ k ≤ 255
/-- What check answers. -/
def CkP (m : Ms) (N : Nat) (d : Nat → Int) (M base : Nat) (w' : World) (v : Value) : Prop :=
  (¬ okKind m.kind ∧ Ft w' base v sKind 0 152) ∨ (okKind m.kind ∧ ¬ okPt m.fr ∧ Ft w' base v sFrom 0 4) ∨ (okKind m.kind ∧ okPt m.fr ∧ ¬ okPt m.to ∧ Ft w' base v sTo 0 4) ∨
  (okKind m.kind ∧ okPt m.fr ∧ okPt m.to ∧ (((m.kind = 2 ∨ m.kind = 4) ∧ Ck (okID m.id) base sPair 0 4 w' v) ∨ (m.kind = 3 ∧ PkP N d M base w' v) ∨ (m.kind = 5 ∧ Ck (okCode m.code) base sCode 0 1 w' v) ∨ ((m.kind = 1 ∨ m.kind = 6) ∧ v = .nilIface)))
theorem cm_len (d : Int) (h b : Nat → Nat) : (Value.int .i64 d :: (yL 32 h ++ yL 32 b)).length = 65 := by simp [yL]
theorem Ft.low {w : World} {base base' : Nat} {v : Value} {s : ByteArray} {a y : Int} (h : Ft w base v s a y) (hb : base' ≤ base) : Ft w base' v s a y := by
  obtain ⟨g, h1, h2, h3⟩ := h
  exact ⟨g, h1, by omega, h3⟩
theorem Ck.low {P : Prop} {base base' : Nat} {s : ByteArray} {a y : Int} {w' : World} {v : Value} (h : Ck P base s a y w' v) (hb : base' ≤ base) : Ck P base' s a y w' v := by
  rcases h with h | ⟨h1, h2⟩
  · exact Or.inl h
  · exact Or.inr ⟨h1, h2.low hb⟩
theorem PkP.low {N : Nat} {d : Nat → Int} {M base base' : Nat} {w' : World} {v : Value} (h : PkP N d M base w' v) (hb : base' ≤ base) : PkP N d M base' w' v := by
  rcases h with ⟨h1, h2⟩ | ⟨h1, j, h2, h3, h4, h5⟩ | ⟨h1, h2, h3⟩
  · exact Or.inl ⟨h1, h2.low hb⟩
  · exact Or.inr (Or.inl ⟨h1, j, h2, h3, h4, h5.low hb⟩)
  · refine Or.inr (Or.inr ⟨h1, h2, ?_⟩)
    rcases h3 with ⟨h3, h4⟩ | h3
    · exact Or.inl ⟨h3, h4.low hb⟩
    · exact Or.inr h3
set_option maxHeartbeats 16000000 in
set_option maxRecDepth 100000 in
theorem check_s (m : Ms) (N : Nat) (d : Nat → Int) (h b : Nat → Nat → Nat) (p : Option Addr) (M c : Nat) (w : World) (hL : Cl w m.list N d h b) (hx : m.text = .slice p M c) :
    Calls Tryz.prog 28 #[.agg (msC m)] w fun e w' => ∃ v, e = .returned v ∧ CkP m N d M w.heap.size w' v ∧ Chg w w' [] := by
  have HL : Hid (Cl w m.list N d h b) := hL
  have HX : Hid (m.text = .slice p M c) := hx
  have qk := isKind_s m.kind
  have qf := isParty_s m.fr
  have qt := isParty_s m.to
  clear hL hx
  by_cases hk : 1 ≤ m.kind ∧ m.kind ≤ 6
  · rw [decide_eq_true hk] at qk
    have HKk : Hid (okKind m.kind) := hk
    by_cases hf : 0 ≤ m.fr ∧ m.fr ≤ 255
    · rw [decide_eq_true hf] at qf
      have HF : Hid (okPt m.fr) := hf
      clear hf
      by_cases ht : 0 ≤ m.to ∧ m.to ≤ 255
      · rw [decide_eq_true ht] at qt
        have HT : Hid (okPt m.to) := ht
        clear ht
        obtain h1 | h2 | h3 | h4 | h5 | h6 : m.kind = 1 ∨ m.kind = 2 ∨ m.kind = 3 ∨ m.kind = 4 ∨ m.kind = 5 ∨ m.kind = 6 := by omega
        · have HK : Hid (m.kind = 1) := h1
          rw [h1] at qk
          clear h1 hk
          go_enter Tryz.func28, Tryz.ntmps28
          go_wp2_with (first
            | (refine box_w rfl 35 _ rfl (msC m) rfl ?_; intro g w1 hg B k1; have ck := ms_at B 0 _ (ms_kind m); have cf := ms_at B 33 _ (ms_fr m); have ct := ms_at B 34 _ (ms_to m); have cc := ms_at B 230 _ (ms_code m); have cl := ms_at B 100 _ (ms_list m); have cx := ms_at B 101 _ (ms_text m); have rp := ms_pair B; try rw [HK.out] at ck; try rw [HX.out] at cx)
            | (go_at_call 71; refine (qk _).mono ?_; rintro e w' ⟨rfl, rfl⟩)
            | (go_at_call 72; refine (qf _).mono ?_; rintro e w' ⟨rfl, rfl⟩)
            | (go_at_call 72; refine (qt _).mono ?_; rintro e w' ⟨rfl, rfl⟩)
            | (refine wpList_load_mid rfl 27 _ rfl g 35 rfl (.int .i64 m.id :: (yL 32 m.hid ++ yL 32 m.bnd)) _ rp Tryz.underlying27 rfl (by rw [cm_len]; exact cmInfo) ?_))
          --K1
          go_ret
          exact ⟨_, rfl, Or.inr (Or.inr (Or.inr ⟨HKk.out, HF.out, HT.out, Or.inr (Or.inr (Or.inr ⟨by rw [HK.out]; simp, rfl⟩))⟩)), k1⟩
        · have HK : Hid (m.kind = 2) := h2
          rw [h2] at qk
          clear h2 hk
          go_enter Tryz.func28, Tryz.ntmps28
          go_wp2_with (first
            | (refine box_w rfl 35 _ rfl (msC m) rfl ?_; intro g w1 hg B k1; have ck := ms_at B 0 _ (ms_kind m); have cf := ms_at B 33 _ (ms_fr m); have ct := ms_at B 34 _ (ms_to m); have cc := ms_at B 230 _ (ms_code m); have cl := ms_at B 100 _ (ms_list m); have cx := ms_at B 101 _ (ms_text m); have rp := ms_pair B; try rw [HK.out] at ck; try rw [HX.out] at cx)
            | (go_at_call 71; refine (qk _).mono ?_; rintro e w' ⟨rfl, rfl⟩)
            | (go_at_call 72; refine (qf _).mono ?_; rintro e w' ⟨rfl, rfl⟩)
            | (go_at_call 72; refine (qt _).mono ?_; rintro e w' ⟨rfl, rfl⟩)
            | (refine wpList_load_mid rfl 27 _ rfl g 35 rfl (.int .i64 m.id :: (yL 32 m.hid ++ yL 32 m.bnd)) _ rp Tryz.underlying27 rfl (by rw [cm_len]; exact cmInfo) ?_))
          --K2
          refine (checkPair_s m.id m.hid m.bnd _).mono ?_
          rintro e w2 ⟨v, rfl, hv, k2⟩
          go_wp2_with fail
          go_ret
          exact ⟨_, rfl, Or.inr (Or.inr (Or.inr ⟨HKk.out, HF.out, HT.out, Or.inl ⟨by rw [HK.out]; simp, hv.low k1.size⟩⟩)), k1.trans1 k2⟩
        · have HK : Hid (m.kind = 3) := h3
          rw [h3] at qk
          clear h3 hk
          go_enter Tryz.func28, Tryz.ntmps28
          go_wp2_with (first
            | (refine box_w rfl 35 _ rfl (msC m) rfl ?_; intro g w1 hg B k1; have ck := ms_at B 0 _ (ms_kind m); have cf := ms_at B 33 _ (ms_fr m); have ct := ms_at B 34 _ (ms_to m); have cc := ms_at B 230 _ (ms_code m); have cl := ms_at B 100 _ (ms_list m); have cx := ms_at B 101 _ (ms_text m); have rp := ms_pair B; try rw [HK.out] at ck; try rw [HX.out] at cx)
            | (go_at_call 71; refine (qk _).mono ?_; rintro e w' ⟨rfl, rfl⟩)
            | (go_at_call 72; refine (qf _).mono ?_; rintro e w' ⟨rfl, rfl⟩)
            | (go_at_call 72; refine (qt _).mono ?_; rintro e w' ⟨rfl, rfl⟩)
            | (refine wpList_load_mid rfl 27 _ rfl g 35 rfl (.int .i64 m.id :: (yL 32 m.hid ++ yL 32 m.bnd)) _ rp Tryz.underlying27 rfl (by rw [cm_len]; exact cmInfo) ?_))
          --K3
          refine (checkPackage_s m.list N d h b p M c _ (HL.out.chg k1)).mono ?_
          rintro e w2 ⟨v, rfl, hv, k2⟩
          go_wp2_with fail
          go_ret
          exact ⟨_, rfl, Or.inr (Or.inr (Or.inr ⟨HKk.out, HF.out, HT.out, Or.inr (Or.inl ⟨HK.out, hv.low k1.size⟩)⟩)), k1.trans1 k2⟩
        · have HK : Hid (m.kind = 4) := h4
          rw [h4] at qk
          clear h4 hk
          go_enter Tryz.func28, Tryz.ntmps28
          go_wp2_with (first
            | (refine box_w rfl 35 _ rfl (msC m) rfl ?_; intro g w1 hg B k1; have ck := ms_at B 0 _ (ms_kind m); have cf := ms_at B 33 _ (ms_fr m); have ct := ms_at B 34 _ (ms_to m); have cc := ms_at B 230 _ (ms_code m); have cl := ms_at B 100 _ (ms_list m); have cx := ms_at B 101 _ (ms_text m); have rp := ms_pair B; try rw [HK.out] at ck; try rw [HX.out] at cx)
            | (go_at_call 71; refine (qk _).mono ?_; rintro e w' ⟨rfl, rfl⟩)
            | (go_at_call 72; refine (qf _).mono ?_; rintro e w' ⟨rfl, rfl⟩)
            | (go_at_call 72; refine (qt _).mono ?_; rintro e w' ⟨rfl, rfl⟩)
            | (refine wpList_load_mid rfl 27 _ rfl g 35 rfl (.int .i64 m.id :: (yL 32 m.hid ++ yL 32 m.bnd)) _ rp Tryz.underlying27 rfl (by rw [cm_len]; exact cmInfo) ?_))
          --K4
          refine (checkPair_s m.id m.hid m.bnd _).mono ?_
          rintro e w2 ⟨v, rfl, hv, k2⟩
          go_wp2_with fail
          go_ret
          exact ⟨_, rfl, Or.inr (Or.inr (Or.inr ⟨HKk.out, HF.out, HT.out, Or.inl ⟨by rw [HK.out]; simp, hv.low k1.size⟩⟩)), k1.trans1 k2⟩
        · have HK : Hid (m.kind = 5) := h5
          rw [h5] at qk
          clear h5 hk
          go_enter Tryz.func28, Tryz.ntmps28
          go_wp2_with (first
            | (refine box_w rfl 35 _ rfl (msC m) rfl ?_; intro g w1 hg B k1; have ck := ms_at B 0 _ (ms_kind m); have cf := ms_at B 33 _ (ms_fr m); have ct := ms_at B 34 _ (ms_to m); have cc := ms_at B 230 _ (ms_code m); have cl := ms_at B 100 _ (ms_list m); have cx := ms_at B 101 _ (ms_text m); have rp := ms_pair B; try rw [HK.out] at ck; try rw [HX.out] at cx)
            | (go_at_call 71; refine (qk _).mono ?_; rintro e w' ⟨rfl, rfl⟩)
            | (go_at_call 72; refine (qf _).mono ?_; rintro e w' ⟨rfl, rfl⟩)
            | (go_at_call 72; refine (qt _).mono ?_; rintro e w' ⟨rfl, rfl⟩)
            | (refine wpList_load_mid rfl 27 _ rfl g 35 rfl (.int .i64 m.id :: (yL 32 m.hid ++ yL 32 m.bnd)) _ rp Tryz.underlying27 rfl (by rw [cm_len]; exact cmInfo) ?_))
          --K5
          refine (checkCode_s m.code _).mono ?_
          rintro e w2 ⟨v, rfl, hv, k2⟩
          go_wp2_with fail
          go_ret
          exact ⟨_, rfl, Or.inr (Or.inr (Or.inr ⟨HKk.out, HF.out, HT.out, Or.inr (Or.inr (Or.inl ⟨HK.out, hv.low k1.size⟩))⟩)), k1.trans1 k2⟩
        · have HK : Hid (m.kind = 6) := h6
          rw [h6] at qk
          clear h6 hk
          go_enter Tryz.func28, Tryz.ntmps28
          go_wp2_with (first
            | (refine box_w rfl 35 _ rfl (msC m) rfl ?_; intro g w1 hg B k1; have ck := ms_at B 0 _ (ms_kind m); have cf := ms_at B 33 _ (ms_fr m); have ct := ms_at B 34 _ (ms_to m); have cc := ms_at B 230 _ (ms_code m); have cl := ms_at B 100 _ (ms_list m); have cx := ms_at B 101 _ (ms_text m); have rp := ms_pair B; try rw [HK.out] at ck; try rw [HX.out] at cx)
            | (go_at_call 71; refine (qk _).mono ?_; rintro e w' ⟨rfl, rfl⟩)
            | (go_at_call 72; refine (qf _).mono ?_; rintro e w' ⟨rfl, rfl⟩)
            | (go_at_call 72; refine (qt _).mono ?_; rintro e w' ⟨rfl, rfl⟩)
            | (refine wpList_load_mid rfl 27 _ rfl g 35 rfl (.int .i64 m.id :: (yL 32 m.hid ++ yL 32 m.bnd)) _ rp Tryz.underlying27 rfl (by rw [cm_len]; exact cmInfo) ?_))
          --K6
          go_ret
          exact ⟨_, rfl, Or.inr (Or.inr (Or.inr ⟨HKk.out, HF.out, HT.out, Or.inr (Or.inr (Or.inr ⟨by rw [HK.out]; simp, rfl⟩))⟩)), k1⟩
      · rw [decide_eq_false ht] at qt
        have HT : Hid (¬ okPt m.to) := ht
        have HK : Hid True := trivial
        clear ht hk
        go_enter Tryz.func28, Tryz.ntmps28
        go_wp2_with (first
          | (refine box_w rfl 35 _ rfl (msC m) rfl ?_; intro g w1 hg B k1; have ck := ms_at B 0 _ (ms_kind m); have cf := ms_at B 33 _ (ms_fr m); have ct := ms_at B 34 _ (ms_to m); have cc := ms_at B 230 _ (ms_code m); have cl := ms_at B 100 _ (ms_list m); have cx := ms_at B 101 _ (ms_text m); have rp := ms_pair B; try rw [HK.out] at ck; try rw [HX.out] at cx)
          | (go_at_call 71; refine (qk _).mono ?_; rintro e w' ⟨rfl, rfl⟩)
          | (go_at_call 72; refine (qf _).mono ?_; rintro e w' ⟨rfl, rfl⟩)
          | (go_at_call 72; refine (qt _).mono ?_; rintro e w' ⟨rfl, rfl⟩)
          | (refine wpList_load_mid rfl 27 _ rfl g 35 rfl (.int .i64 m.id :: (yL 32 m.hid ++ yL 32 m.bnd)) _ rp Tryz.underlying27 rfl (by rw [cm_len]; exact cmInfo) ?_))
        go_ret
        exact ⟨_, rfl, Or.inr (Or.inr (Or.inl ⟨HKk.out, HF.out, HT.out, _, rfl, k1.size, Blk.new _ _ _⟩)), k1.alloc _⟩
    · rw [decide_eq_false hf] at qf
      have HF : Hid (¬ okPt m.fr) := hf
      have HK : Hid True := trivial
      clear hf hk
      go_enter Tryz.func28, Tryz.ntmps28
      go_wp2_with (first
        | (refine box_w rfl 35 _ rfl (msC m) rfl ?_; intro g w1 hg B k1; have ck := ms_at B 0 _ (ms_kind m); have cf := ms_at B 33 _ (ms_fr m); have ct := ms_at B 34 _ (ms_to m); have cc := ms_at B 230 _ (ms_code m); have cl := ms_at B 100 _ (ms_list m); have cx := ms_at B 101 _ (ms_text m); have rp := ms_pair B; try rw [HK.out] at ck; try rw [HX.out] at cx)
        | (go_at_call 71; refine (qk _).mono ?_; rintro e w' ⟨rfl, rfl⟩)
        | (go_at_call 72; refine (qf _).mono ?_; rintro e w' ⟨rfl, rfl⟩)
        | (go_at_call 72; refine (qt _).mono ?_; rintro e w' ⟨rfl, rfl⟩)
        | (refine wpList_load_mid rfl 27 _ rfl g 35 rfl (.int .i64 m.id :: (yL 32 m.hid ++ yL 32 m.bnd)) _ rp Tryz.underlying27 rfl (by rw [cm_len]; exact cmInfo) ?_))
      go_ret
      exact ⟨_, rfl, Or.inr (Or.inl ⟨HKk.out, HF.out, _, rfl, k1.size, Blk.new _ _ _⟩), k1.alloc _⟩
  · rw [decide_eq_false hk] at qk
    have HKk : Hid (¬ okKind m.kind) := hk
    have HK : Hid True := trivial
    clear hk
    go_enter Tryz.func28, Tryz.ntmps28
    go_wp2_with (first
      | (refine box_w rfl 35 _ rfl (msC m) rfl ?_; intro g w1 hg B k1; have ck := ms_at B 0 _ (ms_kind m); have cf := ms_at B 33 _ (ms_fr m); have ct := ms_at B 34 _ (ms_to m); have cc := ms_at B 230 _ (ms_code m); have cl := ms_at B 100 _ (ms_list m); have cx := ms_at B 101 _ (ms_text m); have rp := ms_pair B; try rw [HK.out] at ck; try rw [HX.out] at cx)
      | (go_at_call 71; refine (qk _).mono ?_; rintro e w' ⟨rfl, rfl⟩)
      | (go_at_call 72; refine (qf _).mono ?_; rintro e w' ⟨rfl, rfl⟩)
      | (go_at_call 72; refine (qt _).mono ?_; rintro e w' ⟨rfl, rfl⟩)
      | (refine wpList_load_mid rfl 27 _ rfl g 35 rfl (.int .i64 m.id :: (yL 32 m.hid ++ yL 32 m.bnd)) _ rp Tryz.underlying27 rfl (by rw [cm_len]; exact cmInfo) ?_))
    go_ret
    exact ⟨_, rfl, Or.inl ⟨HKk.out, _, rfl, k1.size, Blk.new _ _ _⟩, k1.alloc _⟩
end Go.Proofs.YtgjclegpnbjlkaaGreatDoor

/- wire.Encode of a message that may not be. -/
namespace Go.Proofs.YtgjclegpnbjlkaaGreatDoor
open Go.RowKit

set_option maxHeartbeats 4000000 in
set_option maxRecDepth 100000 in
theorem Encode_no (m : Ms) (s : ByteArray) (a y : Int) (w : World)
    (hC : ∀ W, Chg w W [] → Calls Tryz.prog 28 #[.agg (msC m)] W fun e w' => ∃ v, e = .returned v ∧ Ft w' W.heap.size v s a y ∧ Chg W w' []) :
    Calls Tryz.prog 7 #[.agg (msC m)] w fun e w' => ∃ v, e = .returned (.tuple #[.slice none 0 0, v]) ∧ Ft w' w.heap.size v s a y ∧ Chg w w' [] := by
  have HC : Hid (∀ W, Chg w W [] → Calls Tryz.prog 28 #[.agg (msC m)] W fun e w' => ∃ v, e = .returned v ∧ Ft w' W.heap.size v s a y ∧ Chg W w' []) := hC
  clear hC
  go_enter Tryz.func7, Tryz.ntmps7
  go_wp2_with (first
    | (refine box_w rfl 35 _ rfl (msC m) rfl ?_; intro g w1 hg B k1)
    | (refine wpList_load_row rfl 35 _ rfl g rfl 35 _ (0, 0) _ B Tryz.underlying35 rfl (by rw [msC_size]; exact msInfo) ?_))
  refine (HC.out _ k1).mono ?_
  rintro e w2 ⟨v, rfl, hv, k2⟩
  have hv2 := hv.low k1.size
  obtain ⟨x, rfl, _, _⟩ := hv
  go_wp2_with fail
  go_ret2
  exact ⟨_, rfl, hv2, k1.trans1 k2⟩
end Go.Proofs.YtgjclegpnbjlkaaGreatDoor

/- wire.Encode of any message. -/
namespace Go.Proofs.YtgjclegpnbjlkaaGreatDoor
open Go.RowKit

set_option maxHeartbeats 4000000 in
set_option maxRecDepth 100000 in
theorem Encode_fault (m : Ms) (P : ByteArray → Nat → Nat → Prop) (w : World)
    (hC : ∀ W, Chg w W [] → Calls Tryz.prog 28 #[.agg (msC m)] W fun e w' => ∃ v, e = .returned v ∧ (∃ s a y, P s a y ∧ Ft w' W.heap.size v s ((a : Nat) : Int) ((y : Nat) : Int)) ∧ Chg W w' []) :
    Calls Tryz.prog 7 #[.agg (msC m)] w fun e w' => ∃ v, e = .returned (.tuple #[.slice none 0 0, v]) ∧ (∃ s a y, P s a y ∧ Ft w' w.heap.size v s ((a : Nat) : Int) ((y : Nat) : Int)) ∧ Chg w w' [] := by
  have HC : Hid (∀ W, Chg w W [] → Calls Tryz.prog 28 #[.agg (msC m)] W fun e w' => ∃ v, e = .returned v ∧ (∃ s a y, P s a y ∧ Ft w' W.heap.size v s ((a : Nat) : Int) ((y : Nat) : Int)) ∧ Chg W w' []) := hC
  clear hC
  go_enter Tryz.func7, Tryz.ntmps7
  go_wp2_with (first
    | (refine box_w rfl 35 _ rfl (msC m) rfl ?_; intro g w1 hg B k1)
    | (refine wpList_load_row rfl 35 _ rfl g rfl 35 _ (0, 0) _ B Tryz.underlying35 rfl (by rw [msC_size]; exact msInfo) ?_))
  refine (HC.out _ k1).mono ?_
  rintro e w2 ⟨v, rfl, ⟨s, a, y, hP, hv⟩, k2⟩
  have hv2 := hv.low k1.size
  obtain ⟨x, rfl, _, _⟩ := hv
  go_wp2_with fail
  go_ret2
  exact ⟨_, rfl, ⟨s, a, y, hP, hv2⟩, k1.trans1 k2⟩
/-- The first fault of a message, and a message without one. -/
def EnP (m : Ms) (N : Nat) (d : Nat → Int) (M : Nat) (s : ByteArray) (a y : Nat) : Prop :=
  (¬ okKind m.kind ∧ s = sKind ∧ a = 0 ∧ y = 152) ∨ (okKind m.kind ∧ ¬ okPt m.fr ∧ s = sFrom ∧ a = 0 ∧ y = 4) ∨ (okKind m.kind ∧ okPt m.fr ∧ ¬ okPt m.to ∧ s = sTo ∧ a = 0 ∧ y = 4) ∨
  (okKind m.kind ∧ okPt m.fr ∧ okPt m.to ∧
    (((m.kind = 2 ∨ m.kind = 4) ∧ ¬ okID m.id ∧ s = sPair ∧ a = 0 ∧ y = 4) ∨
     (m.kind = 3 ∧ ((255 < N ∧ s = sList ∧ a = 0 ∧ y = 8) ∨ (N ≤ 255 ∧ a < N ∧ ¬ okID (d a) ∧ (∀ i, i < a → okID (d i)) ∧ s = sList ∧ y = 4) ∨ (N ≤ 255 ∧ (∀ j, j < N → okID (d j)) ∧ 1048575 < M ∧ s = sText ∧ a = 0 ∧ y = 10))) ∨
     (m.kind = 5 ∧ ¬ okCode m.code ∧ s = sCode ∧ a = 0 ∧ y = 1)))
def EnG (m : Ms) (N : Nat) (d : Nat → Int) (M : Nat) : Prop :=
  okKind m.kind ∧ okPt m.fr ∧ okPt m.to ∧ ((m.kind = 2 ∨ m.kind = 4) → okID m.id) ∧ (m.kind = 3 → N ≤ 255 ∧ (∀ j, j < N → okID (d j)) ∧ M ≤ 1048575) ∧ (m.kind = 5 → okCode m.code)
theorem CkP.split {m : Ms} {N : Nat} {d : Nat → Int} {M base : Nat} {w' : World} {v : Value} (h : CkP m N d M base w' v) :
    (EnG m N d M ∧ v = .nilIface) ∨ (¬ EnG m N d M ∧ ∃ s a y, EnP m N d M s a y ∧ Ft w' base v s ((a : Nat) : Int) ((y : Nat) : Int)) := by
  rcases h with ⟨h1, q⟩ | ⟨h1, h2, q⟩ | ⟨h1, h2, h3, q⟩ | ⟨h1, h2, h3, ⟨hk, ⟨h4, q⟩ | ⟨h4, q⟩⟩ | ⟨hk, ⟨h4, q⟩ | ⟨h4, j, h5, h6, h7, q⟩ | ⟨h4, h5, ⟨h6, q⟩ | ⟨h6, q⟩⟩⟩ | ⟨hk, ⟨h4, q⟩ | ⟨h4, q⟩⟩ | ⟨hk, q⟩⟩
  · exact Or.inr ⟨fun g => h1 g.1, sKind, 0, 152, Or.inl ⟨h1, rfl, rfl, rfl⟩, q⟩
  · exact Or.inr ⟨fun g => h2 g.2.1, sFrom, 0, 4, Or.inr (Or.inl ⟨h1, h2, rfl, rfl, rfl⟩), q⟩
  · exact Or.inr ⟨fun g => h3 g.2.2.1, sTo, 0, 4, Or.inr (Or.inr (Or.inl ⟨h1, h2, h3, rfl, rfl, rfl⟩)), q⟩
  · exact Or.inl ⟨⟨h1, h2, h3, fun _ => h4, fun h => by omega, fun h => by omega⟩, q⟩
  · exact Or.inr ⟨fun g => h4 (g.2.2.2.1 hk), sPair, 0, 4, Or.inr (Or.inr (Or.inr ⟨h1, h2, h3, Or.inl ⟨hk, h4, rfl, rfl, rfl⟩⟩)), q⟩
  · exact Or.inr ⟨fun g => by have := (g.2.2.2.2.1 hk).1; omega, sList, 0, 8, Or.inr (Or.inr (Or.inr ⟨h1, h2, h3, Or.inr (Or.inl ⟨hk, Or.inl ⟨h4, rfl, rfl, rfl⟩⟩)⟩)), q⟩
  · exact Or.inr ⟨fun g => h6 ((g.2.2.2.2.1 hk).2.1 j h5), sList, j, 4, Or.inr (Or.inr (Or.inr ⟨h1, h2, h3, Or.inr (Or.inl ⟨hk, Or.inr (Or.inl ⟨h4, h5, h6, h7, rfl, rfl⟩)⟩)⟩)), q⟩
  · exact Or.inr ⟨fun g => by have := (g.2.2.2.2.1 hk).2.2; omega, sText, 0, 10, Or.inr (Or.inr (Or.inr ⟨h1, h2, h3, Or.inr (Or.inl ⟨hk, Or.inr (Or.inr ⟨h4, h5, h6, rfl, rfl, rfl⟩)⟩)⟩)), q⟩
  · exact Or.inl ⟨⟨h1, h2, h3, fun h => by omega, fun _ => ⟨h4, h5, h6⟩, fun h => by omega⟩, q⟩
  · exact Or.inl ⟨⟨h1, h2, h3, fun h => by omega, fun h => by omega, fun _ => h4⟩, q⟩
  · exact Or.inr ⟨fun g => h4 (g.2.2.2.2.2 hk), sCode, 0, 1, Or.inr (Or.inr (Or.inr ⟨h1, h2, h3, Or.inr (Or.inr ⟨hk, h4, rfl, rfl, rfl⟩)⟩)), q⟩
  · exact Or.inl ⟨⟨h1, h2, h3, fun h => by omega, fun h => by omega, fun h => by omega⟩, q⟩
/-- The body of a message, and its length. -/
def enN (m : Ms) (N M : Nat) : Nat := if m.kind = 1 then 34 else if m.kind = 2 then 34 + 65 else if m.kind = 3 then 34 + (1 + 65 * N) + (4 + M) else if m.kind = 4 then 34 + 65 + 32 + 32 else if m.kind = 5 then 34 + 2 else 34 + 64
def enF (m : Ms) (N : Nat) (d : Nat → Int) (h b : Nat → Nat → Nat) (M : Nat) (ft : Nat → Nat) : Nat → Nat :=
  if m.kind = 1 then hdB m else if m.kind = 2 then cat (hdB m) 34 (cmB m.id.toNat m.hid m.bnd) else if m.kind = 3 then cat (hdB m) 34 (pkB N d h b M ft) else
  if m.kind = 4 then cat (cat (cat (hdB m) 34 (cmB m.id.toNat m.hid m.bnd)) (34 + 65) m.bind) (34 + 65 + 32) m.share else
  if m.kind = 5 then cat (hdB m) 34 (b2 m.code.toNat) else cat (hdB m) 34 m.sig
/-- Bytes are bytes. -/
def MsB (m : Ms) : Prop := (∀ i, i < 32 → m.ses i < 256) ∧ (∀ i, i < 32 → m.hid i < 256) ∧ (∀ i, i < 32 → m.bnd i < 256) ∧ (∀ i, i < 32 → m.bind i < 256) ∧ (∀ i, i < 32 → m.share i < 256) ∧ (∀ i, i < 64 → m.sig i < 256)
theorem bodyOf_s (m : Ms) (N : Nat) (d : Nat → Int) (h b : Nat → Nat → Nat) (M : Nat) (ft : Nat → Nat) (hm : MsB m) (hg : EnG m N d M) (w : World) (hL : Cl w m.list N d h b) (hT : Sl w m.text M ft) :
    Calls Tryz.prog 29 #[.agg (msC m)] w fun e w' => ∃ v, e = .returned v ∧ Own w' w.heap.size v (enN m N M) (enF m N d h b M ft) ∧ Chg w w' [] := by
  obtain ⟨b1, b2', b3, b4, b5, b6⟩ := hm
  obtain ⟨g1, g2, g3, g4, g5, g6⟩ := hg
  unfold okKind at g1
  unfold okPt at g2 g3
  obtain k | k | k | k | k | k : m.kind = 1 ∨ m.kind = 2 ∨ m.kind = 3 ∨ m.kind = 4 ∨ m.kind = 5 ∨ m.kind = 6 := by omega
  · have e1 : enN m N M = 34 := by unfold enN; rw [if_pos k]
    have e2 : enF m N d h b M ft = hdB m := by unfold enF; rw [if_pos k]
    rw [e1, e2]
    exact bodyOf_1 m k g2 g3 b1 w
  · have e1 : enN m N M = 34 + 65 := by unfold enN; rw [if_neg (by omega), if_pos k]
    have e2 : enF m N d h b M ft = cat (hdB m) 34 (cmB m.id.toNat m.hid m.bnd) := by unfold enF; rw [if_neg (by omega), if_pos k]
    have g := g4 (Or.inl k)
    unfold okID at g
    rw [e1, e2]
    exact bodyOf_2 m k g2 g3 b1 w (by omega) b2' b3
  · have e1 : enN m N M = 34 + (1 + 65 * N) + (4 + M) := by unfold enN; rw [if_neg (by omega), if_neg (by omega), if_pos k]
    have e2 : enF m N d h b M ft = cat (hdB m) 34 (pkB N d h b M ft) := by unfold enF; rw [if_neg (by omega), if_neg (by omega), if_pos k]
    have g := g5 k
    rw [e1, e2]
    exact bodyOf_3 m k g2 g3 b1 w N M d h b ft g.1 g.2.2 (fun j hj => by have q := g.2.1 j hj; unfold okID at q; omega) hL hT
  · have e1 : enN m N M = 34 + 65 + 32 + 32 := by unfold enN; rw [if_neg (by omega), if_neg (by omega), if_neg (by omega), if_pos k]
    have e2 : enF m N d h b M ft = cat (cat (cat (hdB m) 34 (cmB m.id.toNat m.hid m.bnd)) (34 + 65) m.bind) (34 + 65 + 32) m.share := by unfold enF; rw [if_neg (by omega), if_neg (by omega), if_neg (by omega), if_pos k]
    have g := g4 (Or.inr k)
    unfold okID at g
    rw [e1, e2]
    exact bodyOf_4 m k g2 g3 b1 w (by omega) b2' b3 b4 b5
  · have e1 : enN m N M = 34 + 2 := by unfold enN; rw [if_neg (by omega), if_neg (by omega), if_neg (by omega), if_neg (by omega), if_pos k]
    have e2 : enF m N d h b M ft = cat (hdB m) 34 (b2 m.code.toNat) := by unfold enF; rw [if_neg (by omega), if_neg (by omega), if_neg (by omega), if_neg (by omega), if_pos k]
    have g := g6 k
    unfold okCode at g
    rw [e1, e2]
    exact bodyOf_5 m k g2 g3 b1 w m.code.toNat (by omega) (by omega)
  · have e1 : enN m N M = 34 + 64 := by unfold enN; rw [if_neg (by omega), if_neg (by omega), if_neg (by omega), if_neg (by omega), if_neg (by omega)]
    have e2 : enF m N d h b M ft = cat (hdB m) 34 m.sig := by unfold enF; rw [if_neg (by omega), if_neg (by omega), if_neg (by omega), if_neg (by omega), if_neg (by omega)]
    rw [e1, e2]
    exact bodyOf_6 m k g2 g3 b1 w b6
theorem enN_le (m : Ms) (N : Nat) (d : Nat → Int) (M : Nat) (hg : EnG m N d M) : enN m N M ≤ 2000000 := by
  unfold enN
  repeat' split
  all_goals first
    | omega
    | (have g := hg.2.2.2.2.1 (by assumption); omega)
/-- What Encode answers. -/
def EnQ2 (m : Ms) (N : Nat) (d : Nat → Int) (h b : Nat → Nat → Nat) (M : Nat) (ft : Nat → Nat) (w : World) (e : Ending) (w' : World) : Prop :=
  (¬ EnG m N d M ∧ ∃ v, e = .returned (.tuple #[.slice none 0 0, v]) ∧ (∃ s a y, EnP m N d M s a y ∧ Ft w' w.heap.size v s ((a : Nat) : Int) ((y : Nat) : Int)) ∧ Chg w w' []) ∨
  (EnG m N d M ∧ ∃ v, e = .returned (.tuple #[v, .nilIface]) ∧ Own w' w.heap.size v (4 + 2 + 4 + enN m N M + 4) (frB m.kind.toNat (enN m N M) (enF m N d h b M ft)) ∧ Chg w w' [])
theorem Encode_s (m : Ms) (N : Nat) (d : Nat → Int) (h b : Nat → Nat → Nat) (M : Nat) (ft : Nat → Nat) (hm : MsB m) (w : World) (hG : Gl w) (hL : Cl w m.list N d h b) (hT : Sl w m.text M ft) :
    Calls Tryz.prog 7 #[.agg (msC m)] w fun e w' => EnQ2 m N d h b M ft w e w' := by
  have hx : ∃ p c, m.text = .slice p M c := by
    rcases hT with ⟨h0, h1⟩ | ⟨g, o, c, h1, _⟩
    · exact ⟨none, 0, by rw [h1, h0]⟩
    · exact ⟨_, _, h1⟩
  obtain ⟨p, c, hx⟩ := hx
  have HC : ∀ W, Chg w W [] → Calls Tryz.prog 28 #[.agg (msC m)] W fun e w' => ∃ v, e = .returned v ∧ CkP m N d M W.heap.size w' v ∧ Chg W w' [] := fun W k => check_s m N d h b p M c W (hL.chg k) hx
  by_cases hg : EnG m N d M
  · refine (Encode_ok m m.kind.toNat (by have := hg.1; unfold okKind at this; omega) (by have := hg.1; unfold okKind at this; omega) (enN m N M) (enF m N d h b M ft) (enN_le m N d M hg) w hG ?_ ?_).mono fun e w' q => Or.inr ⟨hg, q⟩
    · intro W k
      refine (HC W k).mono ?_
      rintro e w' ⟨v, rfl, hq, k2⟩
      rcases hq.split with ⟨_, rfl⟩ | ⟨h1, _⟩
      · exact ⟨rfl, k2⟩
      · exact absurd hg h1
    · exact fun W k => bodyOf_s m N d h b M ft hm hg W (hL.chg k) (hT.chg k (by simp [Off]))
  · refine (Encode_fault m (EnP m N d M) w ?_).mono fun e w' q => Or.inl ⟨hg, q⟩
    intro W k
    refine (HC W k).mono ?_
    rintro e w' ⟨v, rfl, hq, k2⟩
    rcases hq.split with ⟨h1, _⟩ | ⟨_, h1⟩
    · exact absurd h1 hg
    · exact ⟨v, rfl, h1, k2⟩
end Go.Proofs.YtgjclegpnbjlkaaGreatDoor
