/- Joined: W31, W32. -/
import Derived.Test.YtgjclegpnbjlkaaGreatDoorMwC
import Derived.Test.YtgjclegpnbjlkaaGreatDoorMwU
set_option linter.all false
namespace Go.Proofs.YtgjclegpnbjlkaaGreatDoor
set_option maxHeartbeats 4000000
set_option maxRecDepth 100000
open Go.RowKit
theorem number_gu (r n c k : Nat) (p : Option Addr) (a : Nat) (b : Int) (s : ByteArray) (hk : n < a + k) (hn : n ≤ 9223372036854775807) (ha : a ≤ n) (hk2 : k ≤ 9223372036854775807) (w : World) (h : Rd w r (.slice p n c) (a : Int) s b) :
   Calls Tryz.prog 91 #[.pointer (some ⟨r, 0, none⟩), .int .i64 (k : Int)] w fun e w' => Gu w.heap.size s b 3 e w' ∧ Chg w w' [] := by
 have HR : Hid (Rd w r (.slice p n c) (a : Int) s b) := h
 have HA : Hid ((n < a + k ∧ n ≤ 9223372036854775807) ∧ a ≤ n ∧ k ≤ 9223372036854775807) := ⟨⟨hk, hn⟩, ha, hk2⟩
 clear hk hn ha hk2 h
 go_enter Tryz.func91, Tryz.ntmps91
 go_wp2_with fail
 refine (take_gu r n c k p a b s HA.out.1.1 HA.out.1.2 HA.out.2.1 HA.out.2.2 w HR.out).mono ?_
 rintro e w5 ⟨⟨v5, rfl, hf⟩, k5⟩
 exact ⟨rfl, ⟨v5, rfl, hf⟩, k5⟩
theorem party_gu (r n c a : Nat) (p : Option Addr) (b : Int) (s s' : ByteArray) (hk : n < a + 1) (ha : a ≤ n) (hn : n ≤ 9223372036854775807) (w : World) (h : Rd w r (.slice p n c) (a : Int) s b) :
   Calls Tryz.prog 100 #[.pointer (some ⟨r, 0, none⟩), .string s'] w fun e w' => Gu w.heap.size s' (a : Int) 3 e w' ∧ Chg w w' [r] := by
 have HA : Hid (n < a + 1 ∧ a ≤ n ∧ n ≤ 9223372036854775807) := ⟨hk, ha, hn⟩
 have q := begin_s r _ _ b s s' w h
 clear hk ha hn h
 go_enter Tryz.func100, Tryz.ntmps100
 go_wp2_with fail
 refine q.mono ?_
 rintro e w2 ⟨rfl, h2, k2⟩
 go_wp2_with fail
 refine (number_gu r n c 1 p a _ s' HA.out.1 HA.out.2.2 HA.out.2.1 (by omega) w2 h2).mono ?_
 rintro e w5 ⟨⟨v5, rfl, hf⟩, k5⟩
 exact ⟨rfl, ⟨v5, rfl, hf.lw k2.size⟩, k2.trans1 k5.wide⟩
theorem code_gu (r n c a : Nat) (p : Option Addr) (b : Int) (s : ByteArray) (hk : n < a + 2) (ha : a ≤ n) (hn : n ≤ 9223372036854775807) (w : World) (h : Rd w r (.slice p n c) (a : Int) s b) :
   Calls Tryz.prog 104 #[.pointer (some ⟨r, 0, none⟩)] w fun e w' => Gu w.heap.size sCode (a : Int) 3 e w' ∧ Chg w w' [r] := by
 have HA : Hid (n < a + 2 ∧ a ≤ n ∧ n ≤ 9223372036854775807) := ⟨hk, ha, hn⟩
 have q := begin_s r _ _ b s sCode w h
 clear hk ha hn h
 go_enter Tryz.func104, Tryz.ntmps104
 go_wp2_with fail
 refine q.mono ?_
 rintro e w2 ⟨rfl, h2, k2⟩
 go_wp2_with fail
 refine (number_gu r n c 2 p a _ sCode HA.out.1 HA.out.2.2 HA.out.2.1 (by omega) w2 h2).mono ?_
 rintro e w5 ⟨⟨v5, rfl, hf⟩, k5⟩
 exact ⟨rfl, ⟨v5, rfl, hf.lw k2.size⟩, k2.trans1 k5.wide⟩
theorem code_0 (r n c g o a : Nat) (F : Nat → Nat) (b : Int) (s : ByteArray) (hk : a + 2 ≤ n) (hn : n ≤ c) (hn2 : c ≤ 9223372036854775807) (w : World) (h : Rd w r (.slice (some ⟨g, o, none⟩) n c) (a : Int) s b) (hB : Bs w g o n F) (hgr : ¬ g = r) (h0 : nm F a 2 = 0) :
   Calls Tryz.prog 104 #[.pointer (some ⟨r, 0, none⟩)] w fun e w' => Gu w.heap.size sCode (a : Int) 1 e w' ∧ Chg w w' [r] := by
 have ew : IntKind.i64.wrap (0 : Int) = 0 := by decide
 have HB : Hid (Bs w g o n F) := hB
 have HG : Hid (¬ g = r) := hgr
 have q := begin_s r _ _ b s sCode w h
 have HN : Hid (∀ w', Rd w' r (.slice (some ⟨g, o, none⟩) n c) (a : Int) sCode (a : Int) → Bs w' g o n F → Calls Tryz.prog 91 #[.pointer (some ⟨r, 0, none⟩), .int .i64 2] w' fun e w'' => e = .returned (.int .u32 0) ∧ Rd w'' r (.slice (some ⟨g, o, none⟩) n c) ((a : Int) + ((2 : Nat) : Int)) sCode (a : Int) ∧ Chg w' w'' [r]) :=
   fun w' h1 h2 => (number_ok r n c g o a 2 F _ sCode (by omega) hk hn (by omega) hn2 w' h1 h2 hgr).mono fun e w'' ⟨h3, h4, h5⟩ => ⟨by rw [h3, h0]; rfl, h4, h5⟩
 clear hk hn hn2 h hB hgr h0
 go_enter Tryz.func104, Tryz.ntmps104
 go_wp2_with fail
 refine q.mono ?_
 rintro e w2 ⟨rfl, h2, k2⟩
 go_wp2_with fail
 refine (HN.out w2 h2 (HB.out.chg k2 (by simp; exact HG.out))).mono ?_
 rintro e w3 ⟨rfl, h3, k3⟩
 go_wp2_with fail
 refine (wrong_s r _ _ (a : Int) 1 sCode _ h3).mono ?_
 rintro e w5 ⟨⟨v5, rfl, hf⟩, k5⟩
 exact ⟨rfl, ⟨v5, rfl, hf.lw (Nat.le_trans k2.size k3.size)⟩, (k2.trans1 k3).trans1 k5.wide⟩
theorem zero64W : (Tryz.prog.info? 32).bind (·.zero) = some (.agg (yC 64 (fun _ => 0))) := by kernel_rfl
theorem sigInfoV : (Tryz.prog.info? 32).map (·.size) = some 64 := by kernel_rfl
def sSig : ByteArray := ⟨#[115, 105, 103]⟩
theorem sig_ok (r n c g o a : Nat) (F : Nat → Nat) (b : Int) (s : ByteArray) (hk : a + 64 ≤ n) (hn : n ≤ c) (hn2 : c ≤ 9223372036854775807) (w : World) (h : Rd w r (.slice (some ⟨g, o, none⟩) n c) (a : Int) s b) (hB : Bs w g o n F) (hgr : ¬ g = r) :
   Calls Tryz.prog 105 #[.pointer (some ⟨r, 0, none⟩)] w fun e w' => e = .returned (.agg (yC 64 (fun j => F (a + j)))) ∧ Rd w' r (.slice (some ⟨g, o, none⟩) n c) ((a : Int) + ((64 : Nat) : Int)) sSig (a : Int) ∧ Chg w w' [r] := by
 have HA : Hid (a + 64 ≤ n ∧ n ≤ c ∧ c ≤ 9223372036854775807) := ⟨hk, hn, hn2⟩
 have HR : Hid (Rd w r (.slice (some ⟨g, o, none⟩) n c) (a : Int) s b) := h
 have HB : Hid (Bs w g o n F) := hB
 have HG : Hid (¬ g = r) := hgr
 have HL : Hid (r < w.heap.size) := Blk.lt h
 clear hk hn hn2 h hB hgr
 go_enter Tryz.func105, Tryz.ntmps105
 go_wp2_with (with_reducible refine alloc_w rfl 32 rfl (.agg (yC 64 (fun _ => 0))) zero64W (yC 64 (fun _ => 0)) rfl ?_; intro rb w1 hrb BR k1)
 refine (begin_s r _ _ b s sSig w1 (HR.out.chg k1 (by simp))).mono ?_
 rintro e w2 ⟨rfl, h2, k2⟩
 go_wp2_with fail
 refine (take_ok r n c g o a 64 _ _ (by have := HA.out; omega) HA.out.2.1 (by have := HA.out; omega) HA.out.2.2 w2 h2).mono ?_
 rintro e w3 ⟨rfl, h3, k3⟩
 have C3 : Chg w w3 [r] := ((k1.wide).trans1 k2).trans1 k3
 have B3 := ((HB.out.chg C3 (by simp; exact HG.out)).sub a 64 HA.out.1).rg
 have hat : ∀ W, (Instr.arrayAt 32 (.slice (some ⟨g, o + a, none⟩) 64 (c - a))).run Tryz.prog W = .ok (.pointer (some ⟨g, o + a, none⟩)) W := fun W => run_arrayAt (w := W) 32 _ 64 _ 64 (c - a) Tryz.underlying32 (by omega)
 have BR3 := (BR.chg k2 (by have := HL.out; simp; omega)).chg k3 (by have := HL.out; simp; omega)
 clear BR
 go_wp2_with (first
   | (refine wpList_load_mid rfl 32 _ rfl g (o + a) rfl (yL 64 (fun j => F (a + j))) _ B3 Tryz.underlying32 rfl (by rw [yL_len]; exact sigInfoV) ?_)
   | (refine store_w BR3 rfl 32 _ _ (yC 64 (fun j => F (a + j))) rfl rfl rfl sigInfoV rfl (yC_one 64 _) ?_; intro w5 BR5 k5))
 exact bodyPost_ret (results_cell_row Tryz.results105 _ _ rb 32 (yC 64 (fun j => F (a + j))) (0, 0) _ rfl BR5 Tryz.underlying32 rfl sigInfoV) rfl ⟨rfl, h3.chg k5 (by have := HL.out; simp; omega), C3.new k5 hrb⟩
theorem sig_gu (r n c a : Nat) (p : Option Addr) (b : Int) (s : ByteArray) (hk : n < a + 64) (ha : a ≤ n) (hn : n ≤ 9223372036854775807) (w : World) (h : Rd w r (.slice p n c) (a : Int) s b) :
   Calls Tryz.prog 105 #[.pointer (some ⟨r, 0, none⟩)] w fun e w' => Gu w.heap.size sSig (a : Int) 3 e w' ∧ Chg w w' [r] := by
 have HA : Hid (n < a + 64 ∧ a ≤ n ∧ n ≤ 9223372036854775807) := ⟨hk, ha, hn⟩
 have HR : Hid (Rd w r (.slice p n c) (a : Int) s b) := h
 clear hk ha hn h
 go_enter Tryz.func105, Tryz.ntmps105
 go_wp2_with (with_reducible refine alloc_w rfl 32 rfl (.agg (yC 64 (fun _ => 0))) zero64W (yC 64 (fun _ => 0)) rfl ?_; intro rb w1 hrb BR k1)
 refine (begin_s r _ _ b s sSig w1 (HR.out.chg k1 (by simp))).mono ?_
 rintro e w2 ⟨rfl, h2, k2⟩
 go_wp2_with fail
 refine (take_gu r n c 64 p a _ sSig (by have := HA.out; omega) HA.out.2.2 HA.out.2.1 (by omega) w2 h2).mono ?_
 rintro e w5 ⟨⟨v5, rfl, hf⟩, k5⟩
 exact ⟨rfl, ⟨v5, rfl, hf.lw (Nat.le_trans k1.size k2.size)⟩, ((k1.wide).trans1 k2).trans1 k5.wide⟩
end Go.Proofs.YtgjclegpnbjlkaaGreatDoor

set_option linter.all false
namespace Go.Proofs.YtgjclegpnbjlkaaGreatDoor
set_option maxHeartbeats 4000000
set_option maxRecDepth 100000
open Go.RowKit
theorem cat_0 (f g : Nat → Nat) : cat f 0 g = g := by funext i; unfold cat; rw [if_neg (by omega)]; rfl
theorem text_ok (r n c g o a L : Nat) (F : Nat → Nat) (b : Int) (s : ByteArray) (hL : nm F a 4 = L ∧ L ≤ 1048575) (hk : a + 4 + L ≤ n) (hn : n < c) (hn2 : c ≤ 9223372036854775807) (w : World) (h : Rd w r (.slice (some ⟨g, o, none⟩) n c) (a : Int) s b) (hB : Bs w g o n F) (hgr : ¬ g = r) :
   Calls Tryz.prog 103 #[.pointer (some ⟨r, 0, none⟩)] w fun e w' => ∃ v, e = .returned v ∧ Own w' w.heap.size v L (fun j => F (a + 4 + j)) ∧ Rd w' r (.slice (some ⟨g, o, none⟩) n c) ((a + 4 + L : Nat) : Int) sText (a : Int) ∧ Chg w w' [r] := by
 have HA : Hid ((a + 4 + L ≤ n ∧ L ≤ 1048575) ∧ n < c ∧ c ≤ 9223372036854775807) := ⟨⟨hk, hL.2⟩, hn, hn2⟩
 have HB : Hid (Bs w g o n F) := hB
 have HG : Hid (¬ g = r) := hgr
 have HRL : Hid (r < w.heap.size) := Blk.lt h
 have q := begin_s r _ _ b s sText w h
 have HN : Hid (∀ w', Rd w' r (.slice (some ⟨g, o, none⟩) n c) (a : Int) sText (a : Int) → Bs w' g o n F → Calls Tryz.prog 91 #[.pointer (some ⟨r, 0, none⟩), .int .i64 4] w' fun e w'' => e = .returned (.int .u32 (L : Int)) ∧ Rd w'' r (.slice (some ⟨g, o, none⟩) n c) ((a + 4 : Nat) : Int) sText (a : Int) ∧ Chg w' w'' [r]) :=
   fun w' h1 h2 => (number_ok r n c g o a 4 F _ sText (by omega) (by omega) (by omega) (by omega) hn2 w' h1 h2 hgr).mono fun e w'' ⟨h3, h4, h5⟩ => ⟨by rw [h3, hL.1], h4, h5⟩
 have hl : ¬ (1048575 : Int) < (L : Int) := by have := hL.2; omega
 have el : IntKind.i64.wrap (L : Int) = (L : Int) := by have := hL.2; rw [IntKind.wrap_i64]; omega
 clear hL hk hn hn2 h hB hgr
 go_enter Tryz.func103, Tryz.ntmps103
 go_wp2_with fail
 refine q.mono ?_
 rintro e w2 ⟨rfl, h2, k2⟩
 go_wp2_with fail
 refine (HN.out w2 h2 (HB.out.chg k2 (by simp; exact HG.out))).mono ?_
 rintro e w3 ⟨rfl, h3, k3⟩
 go_wp2_with fail
 refine (take_ok r n c g o (a + 4) L _ _ HA.out.1.1 (by have := HA.out; omega) (by have := HA.out; omega) HA.out.2.2 w3 h3).mono ?_
 rintro e w4 ⟨rfl, h4, k4⟩
 have K4 : Chg w w4 [r] := (k2.trans1 k3).trans1 k4
 have S4 : Sl w4 (.slice (some ⟨g, o + (a + 4), none⟩) L (c - (a + 4))) L (fun j => F (a + 4 + j)) := ((HB.out.chg K4 (by simp; exact HG.out)).sub (a + 4) L HA.out.1.1).sl _ (by have := HA.out; omega) (by have := HA.out; omega)
 have h4' : Rd w4 r (.slice (some ⟨g, o, none⟩) n c) ((a + 4 + L : Nat) : Int) sText (a : Int) := h4
 have HSZ : Hid (w.heap.size ≤ w4.heap.size) := K4.size
 clear h4 k2 k3 k4 h2 h3
 go_wp2_with (first
   | (with_reducible refine append_y ?_ (.const (.slice none 0 0)) (.tmp 15) ?_ w.heap.size (.slice none 0 0) _ 0 L (fun _ => 0) (fun j => F (a + 4 + j)) ?_ ?_ (Own.nil _ _ _) S4 ?_ ?_ ?_
      · rfl
      · rfl
      · rfl
      · rfl
      · have := HA.out; omega
      · exact HSZ.out
      intro v5 w5 O5 k5))
 have O6 : Own w5 w.heap.size v5 L (fun j => F (a + 4 + j)) := by rw [Nat.zero_add, cat_0] at O5; exact O5
 have k6 : Chg w4 w5 [] := k5
 go_ret
 exact ⟨_, rfl, O6, h4'.chg k6 (by simp), K4.trans1 k6.wide⟩
theorem text_gu4 (r n c a : Nat) (p : Option Addr) (b : Int) (s : ByteArray) (hk : n < a + 4) (ha : a ≤ n) (hn : n ≤ 9223372036854775807) (w : World) (h : Rd w r (.slice p n c) (a : Int) s b) :
   Calls Tryz.prog 103 #[.pointer (some ⟨r, 0, none⟩)] w fun e w' => Gu w.heap.size sText (a : Int) 3 e w' ∧ Chg w w' [r] := by
 have HA : Hid (n < a + 4 ∧ a ≤ n ∧ n ≤ 9223372036854775807) := ⟨hk, ha, hn⟩
 have q := begin_s r _ _ b s sText w h
 clear hk ha hn h
 go_enter Tryz.func103, Tryz.ntmps103
 go_wp2_with fail
 refine q.mono ?_
 rintro e w2 ⟨rfl, h2, k2⟩
 go_wp2_with fail
 refine (number_gu r n c 4 p a _ sText HA.out.1 HA.out.2.2 HA.out.2.1 (by omega) w2 h2).mono ?_
 rintro e w5 ⟨⟨v5, rfl, hf⟩, k5⟩
 exact ⟨rfl, ⟨v5, rfl, hf.lw k2.size⟩, k2.trans1 k5.wide⟩
theorem text_long (r n c g o a L : Nat) (F : Nat → Nat) (b : Int) (s : ByteArray) (hL : nm F a 4 = L ∧ 1048575 < L) (hk : a + 4 ≤ n) (hn : n < c) (hn2 : c ≤ 9223372036854775807) (w : World) (h : Rd w r (.slice (some ⟨g, o, none⟩) n c) (a : Int) s b) (hB : Bs w g o n F) (hgr : ¬ g = r) :
   Calls Tryz.prog 103 #[.pointer (some ⟨r, 0, none⟩)] w fun e w' => Gu w.heap.size sText (a : Int) 10 e w' ∧ Chg w w' [r] := by
 have HB : Hid (Bs w g o n F) := hB
 have HG : Hid (¬ g = r) := hgr
 have q := begin_s r _ _ b s sText w h
 have HN : Hid (∀ w', Rd w' r (.slice (some ⟨g, o, none⟩) n c) (a : Int) sText (a : Int) → Bs w' g o n F → Calls Tryz.prog 91 #[.pointer (some ⟨r, 0, none⟩), .int .i64 4] w' fun e w'' => e = .returned (.int .u32 (L : Int)) ∧ Rd w'' r (.slice (some ⟨g, o, none⟩) n c) ((a + 4 : Nat) : Int) sText (a : Int) ∧ Chg w' w'' [r]) :=
   fun w' h1 h2 => (number_ok r n c g o a 4 F _ sText (by omega) (by omega) (by omega) (by omega) hn2 w' h1 h2 hgr).mono fun e w'' ⟨h3, h4, h5⟩ => ⟨by rw [h3, hL.1], h4, h5⟩
 have hl : (1048575 : Int) < (L : Int) := by have := hL.2; omega
 clear hL hk hn hn2 h hB hgr
 go_enter Tryz.func103, Tryz.ntmps103
 go_wp2_with fail
 refine q.mono ?_
 rintro e w2 ⟨rfl, h2, k2⟩
 go_wp2_with fail
 refine (HN.out w2 h2 (HB.out.chg k2 (by simp; exact HG.out))).mono ?_
 rintro e w3 ⟨rfl, h3, k3⟩
 go_wp2_with fail
 refine (wrong_s r _ _ (a : Int) 10 sText _ h3).mono ?_
 rintro e w5 ⟨⟨v5, rfl, hf⟩, k5⟩
 exact ⟨rfl, ⟨v5, rfl, hf.lw (Nat.le_trans k2.size k3.size)⟩, (k2.trans1 k3).trans1 k5.wide⟩
theorem text_gu (r n c g o a L : Nat) (F : Nat → Nat) (b : Int) (s : ByteArray) (hL : nm F a 4 = L ∧ L ≤ 1048575) (hk : a + 4 ≤ n) (hk2 : n < a + 4 + L) (hn : n < c) (hn2 : c ≤ 9223372036854775807) (w : World) (h : Rd w r (.slice (some ⟨g, o, none⟩) n c) (a : Int) s b) (hB : Bs w g o n F) (hgr : ¬ g = r) :
   Calls Tryz.prog 103 #[.pointer (some ⟨r, 0, none⟩)] w fun e w' => Gu w.heap.size sText (a : Int) 3 e w' ∧ Chg w w' [r] := by
 have HA : Hid ((a + 4 ≤ n ∧ n < a + 4 + L ∧ L ≤ 1048575) ∧ n < c ∧ c ≤ 9223372036854775807) := ⟨⟨hk, hk2, hL.2⟩, hn, hn2⟩
 have HB : Hid (Bs w g o n F) := hB
 have HG : Hid (¬ g = r) := hgr
 have q := begin_s r _ _ b s sText w h
 have HN : Hid (∀ w', Rd w' r (.slice (some ⟨g, o, none⟩) n c) (a : Int) sText (a : Int) → Bs w' g o n F → Calls Tryz.prog 91 #[.pointer (some ⟨r, 0, none⟩), .int .i64 4] w' fun e w'' => e = .returned (.int .u32 (L : Int)) ∧ Rd w'' r (.slice (some ⟨g, o, none⟩) n c) ((a + 4 : Nat) : Int) sText (a : Int) ∧ Chg w' w'' [r]) :=
   fun w' h1 h2 => (number_ok r n c g o a 4 F _ sText (by omega) (by omega) (by omega) (by omega) hn2 w' h1 h2 hgr).mono fun e w'' ⟨h3, h4, h5⟩ => ⟨by rw [h3, hL.1], h4, h5⟩
 have hl : ¬ (1048575 : Int) < (L : Int) := by have := hL.2; omega
 have el : IntKind.i64.wrap (L : Int) = (L : Int) := by have := hL.2; rw [IntKind.wrap_i64]; omega
 clear hL hk hk2 hn hn2 h hB hgr
 go_enter Tryz.func103, Tryz.ntmps103
 go_wp2_with fail
 refine q.mono ?_
 rintro e w2 ⟨rfl, h2, k2⟩
 go_wp2_with fail
 refine (HN.out w2 h2 (HB.out.chg k2 (by simp; exact HG.out))).mono ?_
 rintro e w3 ⟨rfl, h3, k3⟩
 go_wp2_with fail
 refine (take_gu r n c L _ (a + 4) _ sText HA.out.1.2.1 (by have := HA.out; omega) HA.out.1.1 (by have := HA.out; omega) w3 h3).mono ?_
 rintro e w5 ⟨⟨v5, rfl, hf⟩, k5⟩
 exact ⟨rfl, ⟨v5, rfl, hf.lw (Nat.le_trans k2.size k3.size)⟩, (k2.trans1 k3).trans1 k5.wide⟩
end Go.Proofs.YtgjclegpnbjlkaaGreatDoor
