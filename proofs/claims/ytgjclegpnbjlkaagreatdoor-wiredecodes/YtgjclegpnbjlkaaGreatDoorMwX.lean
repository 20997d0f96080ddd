/- Joined: W41, W42. -/
import Derived.Test.YtgjclegpnbjlkaaGreatDoorMwW
set_option linter.all false
namespace Go.Proofs.YtgjclegpnbjlkaaGreatDoor
set_option maxHeartbeats 8000000
set_option maxRecDepth 100000
open Go.RowKit
theorem peek_idle (p : Addr) (w : World) (hc : w.cell? p = some .nilIface) (hz : w.frozen? p = false) : CallsD Tryz.prog 66 #[.pointer (some p)] .returning w fun e u' w' => e = .returned (.tuple #[]) ∧ u' = .returning ∧ w' = w.setCell p .nilIface := by
 refine callsD_of_wpS Tryz.func66 rfl fun c₀ cs hu => ?_
 apply wpS_region
 simp [wpOpsS, go_sem, recoverD, hu, Tryz.ntmps66, Exit.thenS]
 refine (caught_nil w).mono ?_
 rintro e w' ⟨rfl, rfl⟩
 cases c₀
 simp_all [go_sem, storeCells, bodyPostS, results, Tryz.results66, Exit.thenS]
theorem peek_caught (p : Addr) (v : Value) (pv : Value) (older : List PanicEntry) (w : World) (hc : w.cell? p = some v) (hz : w.frozen? p = false) : CallsD Tryz.prog 66 #[.pointer (some p)] (.panicking ({ v := .iface 106 pv, recovered := false } :: older)) w fun e u' w' => e = .returned (.tuple #[]) ∧ u' = .panicking ({ v := .iface 106 pv, recovered := true } :: older) ∧ w' = w.setCell p (.iface 106 pv) := by
 refine callsD_of_wpS Tryz.func66 rfl fun c₀ cs hu => ?_
 apply wpS_region
 simp [wpOpsS, go_sem, recoverD, hu, Tryz.ntmps66, Exit.thenS]
 refine (caught_flt pv w).mono ?_
 rintro e w' ⟨rfl, rfl⟩
 cases c₀
 simp_all [go_sem, storeCells, bodyPostS, results, Tryz.results66, Exit.thenS]
theorem results_ttcW {P : Program} {fn : Func} {p q r : Tmp} {te : TypeId} (h : fn.results = #[.tmp p, .tmp q, .cell r te]) (tmps : Array Value) (w : World) (a b : Value) (eb : Nat) (v : Value)
   (hp : tmps.getD p undef = a) (hq : tmps.getD q undef = b) (hr : tmps.getD r undef = .pointer (some ⟨eb, 0, none⟩)) (hl : (loadVar te ⟨eb, 0, none⟩).run P w = .ok v w) :
   (results fn tmps).run P w = .ok (.tuple #[a, b, v]) w := by
 have hp' : tmps[p]?.getD undef = a := by simpa using hp
 have hq' : tmps[q]?.getD undef = b := by simpa using hq
 have hr' : tmps[r]?.getD undef = .pointer (some ⟨eb, 0, none⟩) := by simpa using hr
 simp [results, h, hp', hq', hr', asAddr, hl]
def PeekP (G : Prop) (P : ByteArray → Nat → Nat → Prop) (kk zz : Nat) (b : Nat) (e : Ending) (w' : World) : Prop :=
 (¬ G ∧ ∃ s a y, P s a y ∧ ∃ fv, e = .returned (.tuple #[.int .i64 0, .int .i64 0, fv]) ∧ Ft w' b fv s ((a : Nat) : Int) ((y : Nat) : Int)) ∨ (G ∧ e = .returned (.tuple #[.int .i64 ((kk : Nat) : Int), .int .i64 ((zz : Nat) : Int), .nilIface]))
theorem Peek_gen (v : Value) (G : Prop) (P : ByteArray → Nat → Nat → Prop) (kk zz : Nat) (w : World)
   (hD : ∀ W, Chg w W [] → Calls Tryz.prog 67 #[v] W fun e w' => ((¬ G ∧ ∃ s a y, P s a y ∧ Gu W.heap.size s ((a : Nat) : Int) ((y : Nat) : Int) e w') ∨ (G ∧ e = .returned (.tuple #[.int .i64 ((kk : Nat) : Int), .int .i64 ((zz : Nat) : Int)]))) ∧ Chg W w' []) :
   Calls Tryz.prog 17 #[v] w fun e w' => PeekP G P kk zz w.heap.size e w' ∧ Chg w w' [] := by
 have HD : Hid (∀ W, Chg w W [] → Calls Tryz.prog 67 #[v] W fun e w' => ((¬ G ∧ ∃ s a y, P s a y ∧ Gu W.heap.size s ((a : Nat) : Int) ((y : Nat) : Int) e w') ∨ (G ∧ e = .returned (.tuple #[.int .i64 ((kk : Nat) : Int), .int .i64 ((zz : Nat) : Int)]))) ∧ Chg W w' []) := hD
 unfold PeekP
 clear hD
 have hmf : ∀ (fn : Fn) (first cap : Array Value) (w : World), (Instr.makeFunc fn first cap).run Tryz.prog w = .ok (.func fn first cap) w := fun _ _ _ _ => rfl
 go_enter_defers Tryz.func17, Tryz.ntmps17
 go_wp2_with (first
   | (refine alloc_w rfl 54 rfl .nilIface zeroErr #[.nilIface] rfl ?_; intro eb w2 heb BE k2))
 have HS : Hid (w.heap.size ≤ eb ∧ eb < w2.heap.size) := ⟨heb, BE.lt⟩
 have KS : Hid (w.heap.size ≤ w2.heap.size) := k2.size
 refine (HD.out w2 k2).mono ?_
 rintro e w3 ⟨⟨hg, s, a, y, hP, ⟨pv, rfl, g, rfl, hgb, BF⟩⟩ | ⟨hg, rfl⟩, k3⟩
 · have BE3 := BE.chg k3 (by simp)
   have C3 : Chg w w3 [] := k2.trans1 k3
   refine leaves_cons (f := 66) (args := #[.pointer (some ⟨eb, 0, none⟩)]) (by simp) (by simp [go_sem]) ?_
   refine (peek_caught ⟨eb, 0, none⟩ .nilIface (.pointer (some ⟨g, 0, none⟩)) [] _ (BE3.cell 0) (BE3.frozen 0)).mono ?_
   rintro e u' w'' ⟨rfl, rfl, rfl⟩
   have BE6 : Blk (w3.setCell ⟨eb, 0, none⟩ (.iface 106 (.pointer (some ⟨g, 0, none⟩)))) eb #[.iface 106 (.pointer (some ⟨g, 0, none⟩))] 54 := BE3.setCell 0 _
   have BF6 := BF.setOther (show g ≠ eb by have := HS.out; omega) 0 (.iface 106 (.pointer (some ⟨g, 0, none⟩)))
   exact ⟨_, results_ttcW Tryz.results17 _ _ (.int .i64 0) (.int .i64 0) eb _ rfl rfl rfl (load_err BE6), Or.inl ⟨hg, s, a, y, hP, _, rfl, ⟨g, rfl, by have := KS.out; omega, BF6⟩⟩, C3.setNew HS.out.1 0 _⟩
 have BE3 := BE.chg k3 (by simp)
 have ce := BE3.cell 0
 have fe := BE3.frozen 0
 have C3 : Chg w w3 [] := k2.trans1 k3
 have HBE : Hid (Blk w3 eb #[.nilIface] 54) := BE3
 have HC3 : Hid (Chg w w3 []) := C3
 clear BE k2 k3 BE3 C3
 go_wp2_with fail
 have BE5 : Blk (w3.setCell ⟨eb, 0, none⟩ .nilIface) eb #[.nilIface] 54 := HBE.out.setCell 0 _
 refine leaves_cons (f := 66) (args := #[.pointer (some ⟨eb, 0, none⟩)]) (by simp) (by simp [go_sem]) ?_
 refine (peek_idle ⟨eb, 0, none⟩ _ (BE5.cell 0) (BE5.frozen 0)).mono ?_
 rintro e u' w'' ⟨rfl, rfl, rfl⟩
 have BE6 : Blk ((w3.setCell ⟨eb, 0, none⟩ .nilIface).setCell ⟨eb, 0, none⟩ .nilIface) eb #[.nilIface] 54 := BE5.setCell 0 _
 exact ⟨_, results_ttcW Tryz.results17 _ _ (.int .i64 ((kk : Nat) : Int)) (.int .i64 ((zz : Nat) : Int)) eb .nilIface rfl rfl rfl (load_err BE6), Or.inr ⟨hg, rfl⟩, (HC3.out.setNew HS.out.1 0 _).setNew HS.out.1 0 _⟩
theorem Peek_s (g o n c : Nat) (F : Nat → Nat) (hc : n ≤ c) (hc2 : c ≤ 9223372036854775807) (w : World) (hB : Bs w g o n F) :
   Calls Tryz.prog 17 #[.slice (some ⟨g, o, none⟩) n c] w fun e w' => PeekP (HdG n F) (HdP n F) (F 5) (14 + nm F 6 4) w.heap.size e w' ∧ Chg w w' [] :=
 Peek_gen _ _ _ _ _ w fun W k => (readHead_s g o n c F hc hc2 W (hB.chg k (by simp))).mono fun e w' q => ⟨by
     by_cases hg : HdG n F
     · exact Or.inr ⟨hg, q.1.good hg⟩
     · exact Or.inl ⟨hg, q.1.bad hg⟩, q.2⟩
end Go.Proofs.YtgjclegpnbjlkaaGreatDoor

set_option linter.all false
namespace Go.Proofs.YtgjclegpnbjlkaaGreatDoor
set_option maxHeartbeats 8000000
set_option maxRecDepth 100000
open Go.RowKit
theorem readHead_none (p : Option Addr) (c : Nat) (w : World) :
   Calls Tryz.prog 67 #[.slice p 0 c] w fun e w' => Gu w.heap.size sFrame ((0 : Nat) : Int) ((3 : Nat) : Int) e w' ∧ Chg w w' [] := by
 have HTG : Hid (∀ (w' : World) (r : Nat) (b : Int) (s : ByteArray), Rd w' r (.slice p 0 c) ((0 : Nat) : Int) s b → Calls Tryz.prog 90 #[.pointer (some ⟨r, 0, none⟩), .int .i64 1] w' fun e w'' => Gu w'.heap.size s b 3 e w'' ∧ Chg w' w'' []) :=
   fun w' r b s h => take_gu r 0 c 1 _ 0 b s (by omega) (by omega) (by omega) (by omega) w' h
 go_enter Tryz.func67, Tryz.ntmps67
 go_wp2_with (first
   | (refine store_w BR rfl 186 _ _ #[.slice p 0 c, .int .i64 0, .string sFrame, .int .i64 0] rfl rfl rfl rdrInfo rfl (by simp [Value.oneCell']) ?_; intro w2 BR2 k2)
   | (with_reducible refine alloc_w rfl 186 rfl (.agg #[.slice none 0 0, .int .i64 0, .string ⟨#[]⟩, .int .i64 0]) zeroRdr #[.slice none 0 0, .int .i64 0, .string ⟨#[]⟩, .int .i64 0] rfl ?_; intro r w1 hr BR k1))
 have R2 : Rd w2 r (.slice p 0 c) ((0 : Nat) : Int) sFrame ((0 : Nat) : Int) := BR2
 have HR : Hid (w.heap.size ≤ r) := hr
 have C2 : Chg w w2 [] := k1.new k2 hr
 clear BR BR2 k1 k2 hr
 go_loopw [12] (fun t wr => t = .int .i64 0 ∧ Rd wr r (.slice p 0 c) ((0 : Nat) : Int) sFrame ((0 : Nat) : Int) ∧ Chg w wr []) (fun t _ => 0)
 case atStart => exact ⟨rfl, R2, C2⟩
 case round =>
   clear R2 C2
   obtain ⟨rfl, R, C⟩ := hrel
   have C3 := C.drew
   have R3 : Rd wr.drew r (.slice p 0 c) ((0 : Nat) : Int) sFrame ((0 : Nat) : Int) := Blk.drew R
   go_wp2_with fail
   refine lt_begin (fun w' => True) (fun _ => false) (by kernel_rfl) ?_
   obtain ⟨z, hz⟩ : ∃ z, z = wr.drew := ⟨_, rfl⟩
   rw [← hz] at R3 C3 ⊢
   clear hz R C
   have hHeld : True := trivial
   refine lv ?_ 3 (some 18) rfl (fun w => ?_) ?_; rotate_left; (· (go_simp; try with_reducible rfl)); try simp only [Act.put, sA]
   refine lv (.int .u8 82) 4 (some 19) rfl (fun w => ?_) ?_; (· (go_simp; try rfl)); try simp only [Act.put, sA]
   refine lt_one 0 rfl (by kernel_rfl) rfl (fun K hK => ?_)
   go_simp
   refine (HTG.out _ r _ _ R3).mono ?_
   rintro e w5 ⟨⟨v5, rfl, hf⟩, k5⟩
   exact ⟨rfl, ⟨v5, rfl, hf.lw C3.size⟩, C3.trans1 k5⟩
def NoP (s : ByteArray) (a y : Nat) : Prop := s = sFrame ∧ a = 0 ∧ y = 3
theorem Decode_none (p : Option Addr) (c : Nat) (w : World) :
   Calls Tryz.prog 15 #[.slice p 0 c] w fun e w' => (∃ fv, e = .returned (.tuple #[.agg (msC (ms0 0)), fv]) ∧ Ft w' w.heap.size fv sFrame 0 3) ∧ Chg w w' [] := by
 refine (Decode_fr (.slice p 0 c) NoP (fun _ _ _ => False) (fun _ _ _ _ _ h _ _ => h) w (fun W k => (readFrame_head (.slice p 0 c) NoP W (fun V k2 => (readHead_none p c V).mono fun e w' q => ⟨⟨sFrame, 0, 3, ⟨rfl, rfl, rfl⟩, q.1⟩, q.2⟩)).mono fun e w' q => ⟨Or.inl q.1, q.2⟩)).mono fun e w' q => ⟨?_, q.2⟩
 rcases q.1 with ⟨s, a, y, ⟨rfl, rfl, rfl⟩, fv, h1, h2⟩ | ⟨_, _, _, _, h⟩
 · exact ⟨fv, h1, h2⟩
 · exact h.elim
theorem Peek_none (p : Option Addr) (c : Nat) (w : World) :
   Calls Tryz.prog 17 #[.slice p 0 c] w fun e w' => (∃ fv, e = .returned (.tuple #[.int .i64 0, .int .i64 0, fv]) ∧ Ft w' w.heap.size fv sFrame 0 3) ∧ Chg w w' [] := by
 refine (Peek_gen (.slice p 0 c) False NoP 0 0 w (fun V k2 => (readHead_none p c V).mono fun e w' q => ⟨Or.inl ⟨fun h => h, sFrame, 0, 3, ⟨rfl, rfl, rfl⟩, q.1⟩, q.2⟩)).mono fun e w' q => ⟨?_, q.2⟩
 rcases q.1 with ⟨_, s, a, y, ⟨rfl, rfl, rfl⟩, fv, h1, h2⟩ | ⟨h, _⟩
 · exact ⟨fv, h1, h2⟩
 · exact h.elim
end Go.Proofs.YtgjclegpnbjlkaaGreatDoor
