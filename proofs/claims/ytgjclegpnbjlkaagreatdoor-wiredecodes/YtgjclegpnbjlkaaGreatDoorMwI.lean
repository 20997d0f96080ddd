/- Joined: W7, W43. -/
import Derived.Test.YtgjclegpnbjlkaaGreatDoorMwU
import Derived.Test.YtgjclegpnbjlkaaGreatDoorMwV
set_option linter.all false
namespace Go.Proofs.YtgjclegpnbjlkaaGreatDoor
set_option maxHeartbeats 16000000
set_option maxRecDepth 100000
open Go.RowKit
def sKind : ByteArray := ⟨#[107, 105, 110, 100]⟩
def sFrom : ByteArray := ⟨#[102, 114, 111, 109]⟩
def sTo : ByteArray := ⟨#[116, 111]⟩
def okKind (k : Int) : Prop := 1 ≤ k ∧ k ≤ 6
def okPt (k : Int) : Prop := 0 ≤ k ∧ k ≤ 255
def CkP (m : Ms) (N : Nat) (d : Nat → Int) (M base : Nat) (w' : World) (v : Value) : Prop :=
 (¬ okKind m.kind ∧ Ft w' base v sKind 0 152) ∨ (okKind m.kind ∧ ¬ okPt m.fr ∧ Ft w' base v sFrom 0 4) ∨ (okKind m.kind ∧ okPt m.fr ∧ ¬ okPt m.to ∧ Ft w' base v sTo 0 4) ∨
 (okKind m.kind ∧ okPt m.fr ∧ okPt m.to ∧ (((m.kind = 2 ∨ m.kind = 4) ∧ Ck (okID m.id) base sPair 0 4 w' v) ∨ (m.kind = 3 ∧ PkP N d M base w' v) ∨ (m.kind = 5 ∧ Ck (okCode m.code) base sCode 0 1 w' v) ∨ ((m.kind = 1 ∨ m.kind = 6) ∧ v = .nilIface)))
theorem cm_len (d : Int) (h b : Nat → Nat) : (Value.int .i64 d :: (yL 32 h ++ yL 32 b)).length = 65 := by simp [yL]
theorem Ft.low {w : World} {base base' : Nat} {v : Value} {s : ByteArray} {a y : Int} (h : Ft w base v s a y) (hb : base' ≤ base) : Ft w base' v s a y := by
 obtain ⟨g, h1, h2, h3⟩ := h
 exact ⟨g, h1, by omega, h3⟩
theorem Ck.low {P : Prop} {base base' : Nat} {s : ByteArray} {a y : Int} {w' : World} {v : Value} (h : Ck P base s a y w' v) (hb : base' ≤ base) : Ck P base' s a y w' v := by
 rcases h with h | ⟨h1, h2⟩
 · exact Or.inl h
 · exact Or.inr ⟨h1, h2.low hb⟩
theorem PkP.low {N : Nat} {d : Nat → Int} {M base base' : Nat} {w' : World} {v : Value} (h : PkP N d M base w' v) (hb : base' ≤ base) : PkP N d M base' w' v := by
 rcases h with ⟨h1, h2⟩ | ⟨h1, j, h2, h3, h4, h5⟩ | ⟨h1, h2, h3⟩
 · exact Or.inl ⟨h1, h2.low hb⟩
 · exact Or.inr (Or.inl ⟨h1, j, h2, h3, h4, h5.low hb⟩)
 · refine Or.inr (Or.inr ⟨h1, h2, ?_⟩)
   rcases h3 with ⟨h3, h4⟩ | h3
   · exact Or.inl ⟨h3, h4.low hb⟩
   · exact Or.inr h3
theorem check_s (m : Ms) (N : Nat) (d : Nat → Int) (h b : Nat → Nat → Nat) (p : Option Addr) (M c : Nat) (w : World) (hL : Cl w m.list N d h b) (hx : m.text = .slice p M c) :
   Calls Tryz.prog 28 #[.agg (msC m)] w fun e w' => ∃ v, e = .returned v ∧ CkP m N d M w.heap.size w' v ∧ Chg w w' [] := by
 have HL : Hid (Cl w m.list N d h b) := hL
 have HX : Hid (m.text = .slice p M c) := hx
 have qk := isKind_s m.kind
 have qf := isParty_s m.fr
 have qt := isParty_s m.to
 clear hL hx
 by_cases hk : 1 ≤ m.kind ∧ m.kind ≤ 6
 · rw [decide_eq_true hk] at qk
   have HKk : Hid (okKind m.kind) := hk
   by_cases hf : 0 ≤ m.fr ∧ m.fr ≤ 255
   · rw [decide_eq_true hf] at qf
     have HF : Hid (okPt m.fr) := hf
     clear hf
     by_cases ht : 0 ≤ m.to ∧ m.to ≤ 255
     · rw [decide_eq_true ht] at qt
       have HT : Hid (okPt m.to) := ht
       clear ht
       obtain h1 | h2 | h3 | h4 | h5 | h6 : m.kind = 1 ∨ m.kind = 2 ∨ m.kind = 3 ∨ m.kind = 4 ∨ m.kind = 5 ∨ m.kind = 6 := by omega
       · have HK : Hid (m.kind = 1) := h1
         rw [h1] at qk
         clear h1 hk
         go_enter Tryz.func28, Tryz.ntmps28
         go_wp2_with (first
           | (refine box_w rfl 35 _ rfl (msC m) rfl ?_; intro g w1 hg B k1; have ck := ms_at B 0 _ (ms_kind m); have cf := ms_at B 33 _ (ms_fr m); have ct := ms_at B 34 _ (ms_to m); have cc := ms_at B 230 _ (ms_code m); have cl := ms_at B 100 _ (ms_list m); have cx := ms_at B 101 _ (ms_text m); have rp := ms_pair B; try rw [HK.out] at ck; try rw [HX.out] at cx)
           | (go_at_call 71; refine (qk _).mono ?_; rintro e w' ⟨rfl, rfl⟩)
           | (go_at_call 72; refine (qf _).mono ?_; rintro e w' ⟨rfl, rfl⟩)
           | (go_at_call 72; refine (qt _).mono ?_; rintro e w' ⟨rfl, rfl⟩)
           | (refine wpList_load_mid rfl 27 _ rfl g 35 rfl (.int .i64 m.id :: (yL 32 m.hid ++ yL 32 m.bnd)) _ rp Tryz.underlying27 rfl (by rw [cm_len]; exact cmInfo) ?_))
         --K1
         go_ret
         exact ⟨_, rfl, Or.inr (Or.inr (Or.inr ⟨HKk.out, HF.out, HT.out, Or.inr (Or.inr (Or.inr ⟨by rw [HK.out]; simp, rfl⟩))⟩)), k1⟩
       · have HK : Hid (m.kind = 2) := h2
         rw [h2] at qk
         clear h2 hk
         go_enter Tryz.func28, Tryz.ntmps28
         go_wp2_with (first
           | (refine box_w rfl 35 _ rfl (msC m) rfl ?_; intro g w1 hg B k1; have ck := ms_at B 0 _ (ms_kind m); have cf := ms_at B 33 _ (ms_fr m); have ct := ms_at B 34 _ (ms_to m); have cc := ms_at B 230 _ (ms_code m); have cl := ms_at B 100 _ (ms_list m); have cx := ms_at B 101 _ (ms_text m); have rp := ms_pair B; try rw [HK.out] at ck; try rw [HX.out] at cx)
           | (go_at_call 71; refine (qk _).mono ?_; rintro e w' ⟨rfl, rfl⟩)
           | (go_at_call 72; refine (qf _).mono ?_; rintro e w' ⟨rfl, rfl⟩)
           | (go_at_call 72; refine (qt _).mono ?_; rintro e w' ⟨rfl, rfl⟩)
           | (refine wpList_load_mid rfl 27 _ rfl g 35 rfl (.int .i64 m.id :: (yL 32 m.hid ++ yL 32 m.bnd)) _ rp Tryz.underlying27 rfl (by rw [cm_len]; exact cmInfo) ?_))
         --K2
         refine (checkPair_s m.id m.hid m.bnd _).mono ?_
         rintro e w2 ⟨v, rfl, hv, k2⟩
         go_wp2_with fail
         go_ret
         exact ⟨_, rfl, Or.inr (Or.inr (Or.inr ⟨HKk.out, HF.out, HT.out, Or.inl ⟨by rw [HK.out]; simp, hv.low k1.size⟩⟩)), k1.trans1 k2⟩
       · have HK : Hid (m.kind = 3) := h3
         rw [h3] at qk
         clear h3 hk
         go_enter Tryz.func28, Tryz.ntmps28
         go_wp2_with (first
           | (refine box_w rfl 35 _ rfl (msC m) rfl ?_; intro g w1 hg B k1; have ck := ms_at B 0 _ (ms_kind m); have cf := ms_at B 33 _ (ms_fr m); have ct := ms_at B 34 _ (ms_to m); have cc := ms_at B 230 _ (ms_code m); have cl := ms_at B 100 _ (ms_list m); have cx := ms_at B 101 _ (ms_text m); have rp := ms_pair B; try rw [HK.out] at ck; try rw [HX.out] at cx)
           | (go_at_call 71; refine (qk _).mono ?_; rintro e w' ⟨rfl, rfl⟩)
           | (go_at_call 72; refine (qf _).mono ?_; rintro e w' ⟨rfl, rfl⟩)
           | (go_at_call 72; refine (qt _).mono ?_; rintro e w' ⟨rfl, rfl⟩)
           | (refine wpList_load_mid rfl 27 _ rfl g 35 rfl (.int .i64 m.id :: (yL 32 m.hid ++ yL 32 m.bnd)) _ rp Tryz.underlying27 rfl (by rw [cm_len]; exact cmInfo) ?_))
         --K3
         refine (checkPackage_s m.list N d h b p M c _ (HL.out.chg k1)).mono ?_
         rintro e w2 ⟨v, rfl, hv, k2⟩
         go_wp2_with fail
         go_ret
         exact ⟨_, rfl, Or.inr (Or.inr (Or.inr ⟨HKk.out, HF.out, HT.out, Or.inr (Or.inl ⟨HK.out, hv.low k1.size⟩)⟩)), k1.trans1 k2⟩
       · have HK : Hid (m.kind = 4) := h4
         rw [h4] at qk
         clear h4 hk
         go_enter Tryz.func28, Tryz.ntmps28
         go_wp2_with (first
           | (refine box_w rfl 35 _ rfl (msC m) rfl ?_; intro g w1 hg B k1; have ck := ms_at B 0 _ (ms_kind m); have cf := ms_at B 33 _ (ms_fr m); have ct := ms_at B 34 _ (ms_to m); have cc := ms_at B 230 _ (ms_code m); have cl := ms_at B 100 _ (ms_list m); have cx := ms_at B 101 _ (ms_text m); have rp := ms_pair B; try rw [HK.out] at ck; try rw [HX.out] at cx)
           | (go_at_call 71; refine (qk _).mono ?_; rintro e w' ⟨rfl, rfl⟩)
           | (go_at_call 72; refine (qf _).mono ?_; rintro e w' ⟨rfl, rfl⟩)
           | (go_at_call 72; refine (qt _).mono ?_; rintro e w' ⟨rfl, rfl⟩)
           | (refine wpList_load_mid rfl 27 _ rfl g 35 rfl (.int .i64 m.id :: (yL 32 m.hid ++ yL 32 m.bnd)) _ rp Tryz.underlying27 rfl (by rw [cm_len]; exact cmInfo) ?_))
         --K4
         refine (checkPair_s m.id m.hid m.bnd _).mono ?_
         rintro e w2 ⟨v, rfl, hv, k2⟩
         go_wp2_with fail
         go_ret
         exact ⟨_, rfl, Or.inr (Or.inr (Or.inr ⟨HKk.out, HF.out, HT.out, Or.inl ⟨by rw [HK.out]; simp, hv.low k1.size⟩⟩)), k1.trans1 k2⟩
       · have HK : Hid (m.kind = 5) := h5
         rw [h5] at qk
         clear h5 hk
         go_enter Tryz.func28, Tryz.ntmps28
         go_wp2_with (first
           | (refine box_w rfl 35 _ rfl (msC m) rfl ?_; intro g w1 hg B k1; have ck := ms_at B 0 _ (ms_kind m); have cf := ms_at B 33 _ (ms_fr m); have ct := ms_at B 34 _ (ms_to m); have cc := ms_at B 230 _ (ms_code m); have cl := ms_at B 100 _ (ms_list m); have cx := ms_at B 101 _ (ms_text m); have rp := ms_pair B; try rw [HK.out] at ck; try rw [HX.out] at cx)
           | (go_at_call 71; refine (qk _).mono ?_; rintro e w' ⟨rfl, rfl⟩)
           | (go_at_call 72; refine (qf _).mono ?_; rintro e w' ⟨rfl, rfl⟩)
           | (go_at_call 72; refine (qt _).mono ?_; rintro e w' ⟨rfl, rfl⟩)
           | (refine wpList_load_mid rfl 27 _ rfl g 35 rfl (.int .i64 m.id :: (yL 32 m.hid ++ yL 32 m.bnd)) _ rp Tryz.underlying27 rfl (by rw [cm_len]; exact cmInfo) ?_))
         --K5
         refine (checkCode_s m.code _).mono ?_
         rintro e w2 ⟨v, rfl, hv, k2⟩
         go_wp2_with fail
         go_ret
         exact ⟨_, rfl, Or.inr (Or.inr (Or.inr ⟨HKk.out, HF.out, HT.out, Or.inr (Or.inr (Or.inl ⟨HK.out, hv.low k1.size⟩))⟩)), k1.trans1 k2⟩
       · have HK : Hid (m.kind = 6) := h6
         rw [h6] at qk
         clear h6 hk
         go_enter Tryz.func28, Tryz.ntmps28
         go_wp2_with (first
           | (refine box_w rfl 35 _ rfl (msC m) rfl ?_; intro g w1 hg B k1; have ck := ms_at B 0 _ (ms_kind m); have cf := ms_at B 33 _ (ms_fr m); have ct := ms_at B 34 _ (ms_to m); have cc := ms_at B 230 _ (ms_code m); have cl := ms_at B 100 _ (ms_list m); have cx := ms_at B 101 _ (ms_text m); have rp := ms_pair B; try rw [HK.out] at ck; try rw [HX.out] at cx)
           | (go_at_call 71; refine (qk _).mono ?_; rintro e w' ⟨rfl, rfl⟩)
           | (go_at_call 72; refine (qf _).mono ?_; rintro e w' ⟨rfl, rfl⟩)
           | (go_at_call 72; refine (qt _).mono ?_; rintro e w' ⟨rfl, rfl⟩)
           | (refine wpList_load_mid rfl 27 _ rfl g 35 rfl (.int .i64 m.id :: (yL 32 m.hid ++ yL 32 m.bnd)) _ rp Tryz.underlying27 rfl (by rw [cm_len]; exact cmInfo) ?_))
         --K6
         go_ret
         exact ⟨_, rfl, Or.inr (Or.inr (Or.inr ⟨HKk.out, HF.out, HT.out, Or.inr (Or.inr (Or.inr ⟨by rw [HK.out]; simp, rfl⟩))⟩)), k1⟩
     · rw [decide_eq_false ht] at qt
       have HT : Hid (¬ okPt m.to) := ht
       have HK : Hid True := trivial
       clear ht hk
       go_enter Tryz.func28, Tryz.ntmps28
       go_wp2_with (first
         | (refine box_w rfl 35 _ rfl (msC m) rfl ?_; intro g w1 hg B k1; have ck := ms_at B 0 _ (ms_kind m); have cf := ms_at B 33 _ (ms_fr m); have ct := ms_at B 34 _ (ms_to m); have cc := ms_at B 230 _ (ms_code m); have cl := ms_at B 100 _ (ms_list m); have cx := ms_at B 101 _ (ms_text m); have rp := ms_pair B; try rw [HK.out] at ck; try rw [HX.out] at cx)
         | (go_at_call 71; refine (qk _).mono ?_; rintro e w' ⟨rfl, rfl⟩)
         | (go_at_call 72; refine (qf _).mono ?_; rintro e w' ⟨rfl, rfl⟩)
         | (go_at_call 72; refine (qt _).mono ?_; rintro e w' ⟨rfl, rfl⟩)
         | (refine wpList_load_mid rfl 27 _ rfl g 35 rfl (.int .i64 m.id :: (yL 32 m.hid ++ yL 32 m.bnd)) _ rp Tryz.underlying27 rfl (by rw [cm_len]; exact cmInfo) ?_))
       go_ret
       exact ⟨_, rfl, Or.inr (Or.inr (Or.inl ⟨HKk.out, HF.out, HT.out, _, rfl, k1.size, Blk.new _ _ _⟩)), k1.alloc _⟩
   · rw [decide_eq_false hf] at qf
     have HF : Hid (¬ okPt m.fr) := hf
     have HK : Hid True := trivial
     clear hf hk
     go_enter Tryz.func28, Tryz.ntmps28
     go_wp2_with (first
       | (refine box_w rfl 35 _ rfl (msC m) rfl ?_; intro g w1 hg B k1; have ck := ms_at B 0 _ (ms_kind m); have cf := ms_at B 33 _ (ms_fr m); have ct := ms_at B 34 _ (ms_to m); have cc := ms_at B 230 _ (ms_code m); have cl := ms_at B 100 _ (ms_list m); have cx := ms_at B 101 _ (ms_text m); have rp := ms_pair B; try rw [HK.out] at ck; try rw [HX.out] at cx)
       | (go_at_call 71; refine (qk _).mono ?_; rintro e w' ⟨rfl, rfl⟩)
       | (go_at_call 72; refine (qf _).mono ?_; rintro e w' ⟨rfl, rfl⟩)
       | (go_at_call 72; refine (qt _).mono ?_; rintro e w' ⟨rfl, rfl⟩)
       | (refine wpList_load_mid rfl 27 _ rfl g 35 rfl (.int .i64 m.id :: (yL 32 m.hid ++ yL 32 m.bnd)) _ rp Tryz.underlying27 rfl (by rw [cm_len]; exact cmInfo) ?_))
     go_ret
     exact ⟨_, rfl, Or.inr (Or.inl ⟨HKk.out, HF.out, _, rfl, k1.size, Blk.new _ _ _⟩), k1.alloc _⟩
 · rw [decide_eq_false hk] at qk
   have HKk : Hid (¬ okKind m.kind) := hk
   have HK : Hid True := trivial
   clear hk
   go_enter Tryz.func28, Tryz.ntmps28
   go_wp2_with (first
     | (refine box_w rfl 35 _ rfl (msC m) rfl ?_; intro g w1 hg B k1; have ck := ms_at B 0 _ (ms_kind m); have cf := ms_at B 33 _ (ms_fr m); have ct := ms_at B 34 _ (ms_to m); have cc := ms_at B 230 _ (ms_code m); have cl := ms_at B 100 _ (ms_list m); have cx := ms_at B 101 _ (ms_text m); have rp := ms_pair B; try rw [HK.out] at ck; try rw [HX.out] at cx)
     | (go_at_call 71; refine (qk _).mono ?_; rintro e w' ⟨rfl, rfl⟩)
     | (go_at_call 72; refine (qf _).mono ?_; rintro e w' ⟨rfl, rfl⟩)
     | (go_at_call 72; refine (qt _).mono ?_; rintro e w' ⟨rfl, rfl⟩)
     | (refine wpList_load_mid rfl 27 _ rfl g 35 rfl (.int .i64 m.id :: (yL 32 m.hid ++ yL 32 m.bnd)) _ rp Tryz.underlying27 rfl (by rw [cm_len]; exact cmInfo) ?_))
   go_ret
   exact ⟨_, rfl, Or.inl ⟨HKk.out, _, rfl, k1.size, Blk.new _ _ _⟩, k1.alloc _⟩
end Go.Proofs.YtgjclegpnbjlkaaGreatDoor

set_option linter.all false
namespace Go.Proofs.YtgjclegpnbjlkaaGreatDoor
open Go.RowKit
def EnP (m : Ms) (N : Nat) (d : Nat → Int) (M : Nat) (s : ByteArray) (a y : Nat) : Prop :=
 (¬ okKind m.kind ∧ s = sKind ∧ a = 0 ∧ y = 152) ∨ (okKind m.kind ∧ ¬ okPt m.fr ∧ s = sFrom ∧ a = 0 ∧ y = 4) ∨ (okKind m.kind ∧ okPt m.fr ∧ ¬ okPt m.to ∧ s = sTo ∧ a = 0 ∧ y = 4) ∨
 (okKind m.kind ∧ okPt m.fr ∧ okPt m.to ∧
   (((m.kind = 2 ∨ m.kind = 4) ∧ ¬ okID m.id ∧ s = sPair ∧ a = 0 ∧ y = 4) ∨
    (m.kind = 3 ∧ ((255 < N ∧ s = sList ∧ a = 0 ∧ y = 8) ∨ (N ≤ 255 ∧ a < N ∧ ¬ okID (d a) ∧ (∀ i, i < a → okID (d i)) ∧ s = sList ∧ y = 4) ∨ (N ≤ 255 ∧ (∀ j, j < N → okID (d j)) ∧ 1048575 < M ∧ s = sText ∧ a = 0 ∧ y = 10))) ∨
    (m.kind = 5 ∧ ¬ okCode m.code ∧ s = sCode ∧ a = 0 ∧ y = 1)))
def EnG (m : Ms) (N : Nat) (d : Nat → Int) (M : Nat) : Prop :=
 okKind m.kind ∧ okPt m.fr ∧ okPt m.to ∧ ((m.kind = 2 ∨ m.kind = 4) → okID m.id) ∧ (m.kind = 3 → N ≤ 255 ∧ (∀ j, j < N → okID (d j)) ∧ M ≤ 1048575) ∧ (m.kind = 5 → okCode m.code)
theorem CkP.split {m : Ms} {N : Nat} {d : Nat → Int} {M base : Nat} {w' : World} {v : Value} (h : CkP m N d M base w' v) :
   (EnG m N d M ∧ v = .nilIface) ∨ (¬ EnG m N d M ∧ ∃ s a y, EnP m N d M s a y ∧ Ft w' base v s ((a : Nat) : Int) ((y : Nat) : Int)) := by
 rcases h with ⟨h1, q⟩ | ⟨h1, h2, q⟩ | ⟨h1, h2, h3, q⟩ | ⟨h1, h2, h3, ⟨hk, ⟨h4, q⟩ | ⟨h4, q⟩⟩ | ⟨hk, ⟨h4, q⟩ | ⟨h4, j, h5, h6, h7, q⟩ | ⟨h4, h5, ⟨h6, q⟩ | ⟨h6, q⟩⟩⟩ | ⟨hk, ⟨h4, q⟩ | ⟨h4, q⟩⟩ | ⟨hk, q⟩⟩
 · exact Or.inr ⟨fun g => h1 g.1, sKind, 0, 152, Or.inl ⟨h1, rfl, rfl, rfl⟩, q⟩
 · exact Or.inr ⟨fun g => h2 g.2.1, sFrom, 0, 4, Or.inr (Or.inl ⟨h1, h2, rfl, rfl, rfl⟩), q⟩
 · exact Or.inr ⟨fun g => h3 g.2.2.1, sTo, 0, 4, Or.inr (Or.inr (Or.inl ⟨h1, h2, h3, rfl, rfl, rfl⟩)), q⟩
 · exact Or.inl ⟨⟨h1, h2, h3, fun _ => h4, fun h => by omega, fun h => by omega⟩, q⟩
 · exact Or.inr ⟨fun g => h4 (g.2.2.2.1 hk), sPair, 0, 4, Or.inr (Or.inr (Or.inr ⟨h1, h2, h3, Or.inl ⟨hk, h4, rfl, rfl, rfl⟩⟩)), q⟩
 · exact Or.inr ⟨fun g => by have := (g.2.2.2.2.1 hk).1; omega, sList, 0, 8, Or.inr (Or.inr (Or.inr ⟨h1, h2, h3, Or.inr (Or.inl ⟨hk, Or.inl ⟨h4, rfl, rfl, rfl⟩⟩)⟩)), q⟩
 · exact Or.inr ⟨fun g => h6 ((g.2.2.2.2.1 hk).2.1 j h5), sList, j, 4, Or.inr (Or.inr (Or.inr ⟨h1, h2, h3, Or.inr (Or.inl ⟨hk, Or.inr (Or.inl ⟨h4, h5, h6, h7, rfl, rfl⟩)⟩)⟩)), q⟩
 · exact Or.inr ⟨fun g => by have := (g.2.2.2.2.1 hk).2.2; omega, sText, 0, 10, Or.inr (Or.inr (Or.inr ⟨h1, h2, h3, Or.inr (Or.inl ⟨hk, Or.inr (Or.inr ⟨h4, h5, h6, rfl, rfl, rfl⟩)⟩)⟩)), q⟩
 · exact Or.inl ⟨⟨h1, h2, h3, fun h => by omega, fun _ => ⟨h4, h5, h6⟩, fun h => by omega⟩, q⟩
 · exact Or.inl ⟨⟨h1, h2, h3, fun h => by omega, fun h => by omega, fun _ => h4⟩, q⟩
 · exact Or.inr ⟨fun g => h4 (g.2.2.2.2.2 hk), sCode, 0, 1, Or.inr (Or.inr (Or.inr ⟨h1, h2, h3, Or.inr (Or.inr ⟨hk, h4, rfl, rfl, rfl⟩)⟩)), q⟩
 · exact Or.inl ⟨⟨h1, h2, h3, fun h => by omega, fun h => by omega, fun h => by omega⟩, q⟩
end Go.Proofs.YtgjclegpnbjlkaaGreatDoor
