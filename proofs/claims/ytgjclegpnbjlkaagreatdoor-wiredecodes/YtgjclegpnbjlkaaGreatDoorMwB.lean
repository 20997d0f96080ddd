/- Joined: W12, W13, W14, W15, W16, W17. -/
import Derived.Test.YtgjclegpnbjlkaaGreatDoorMwU
import Derived.Laws.Cover3
set_option linter.all false
namespace Go.Proofs.YtgjclegpnbjlkaaGreatDoor
set_option maxHeartbeats 4000000
set_option maxRecDepth 100000
open Go.RowKit
def Gu (base : Nat) (s : ByteArray) (a y : Int) (e : Ending) (w' : World) : Prop := ∃ v, e = .panicked [{ v := v, recovered := false }] ∧ Ft w' base v s a y
theorem giveUp_s (s : ByteArray) (a y : Int) (w : World) : Calls Tryz.prog 85 #[.string s, .int .i64 a, .int .i64 y] w fun e w' => Gu w.heap.size s a y e w' ∧ Chg w w' [] := by
 go_enter Tryz.func85, Tryz.ntmps85
 go_wp2_with fail
 exact ⟨rfl, ⟨_, rfl, _, rfl, Nat.le_refl _, Blk.new _ _ _⟩, (Chg.refl _ _).alloc _⟩
end Go.Proofs.YtgjclegpnbjlkaaGreatDoor

set_option linter.all false
namespace Go.Proofs.YtgjclegpnbjlkaaGreatDoor
set_option maxHeartbeats 4000000
set_option maxRecDepth 100000
open Go.RowKit
def Rd (w : World) (r : Nat) (v : Value) (a : Int) (s : ByteArray) (b : Int) : Prop := Blk w r #[v, .int .i64 a, .string s, .int .i64 b] 186
theorem Rd.chg {w w' : World} {r : Nat} {v : Value} {a : Int} {s : ByteArray} {b : Int} {l : List Nat} (h : Rd w r v a s b) (hc : Chg w w' l) (hl : ¬ r ∈ l) : Rd w' r v a s b := Blk.chg h hc hl
theorem Rd.c0 {w : World} {r : Nat} {v : Value} {a : Int} {s : ByteArray} {b : Int} (h : Rd w r v a s b) : w.cell? ⟨r, 0, none⟩ = some v := by rw [Blk.cell h]; rfl
theorem Rd.c1 {w : World} {r : Nat} {v : Value} {a : Int} {s : ByteArray} {b : Int} (h : Rd w r v a s b) : w.cell? ⟨r, 1, none⟩ = some (.int .i64 a) := by rw [Blk.cell h]; rfl
theorem Rd.c2 {w : World} {r : Nat} {v : Value} {a : Int} {s : ByteArray} {b : Int} (h : Rd w r v a s b) : w.cell? ⟨r, 2, none⟩ = some (.string s) := by rw [Blk.cell h]; rfl
theorem Rd.c3 {w : World} {r : Nat} {v : Value} {a : Int} {s : ByteArray} {b : Int} (h : Rd w r v a s b) : w.cell? ⟨r, 3, none⟩ = some (.int .i64 b) := by rw [Blk.cell h]; rfl
theorem begin_s (r : Nat) (v : Value) (a b : Int) (s s' : ByteArray) (w : World) (h : Rd w r v a s b) : Calls Tryz.prog 119 #[.pointer (some ⟨r, 0, none⟩), .string s'] w fun e w' => e = .returned (.tuple #[]) ∧ Rd w' r v a s' a ∧ Chg w w' [r] := by
 have c0 := h.c0
 have c1 := h.c1
 have c2 := h.c2
 have c3 := h.c3
 have f2 := Blk.frozen h 2
 have f3 := Blk.frozen h 3
 have H2 := (Blk.setCell h 2 (.string s')).setCell 3 (.int .i64 a)
 have K2 : Chg w ((w.setCell ⟨r, 2, none⟩ (.string s')).setCell ⟨r, 3, none⟩ (.int .i64 a)) [r] := ((Chg.refl w [r]).setIn (by simp) 2 _).setIn (by simp) 3 _
 clear h
 go_enter Tryz.func119, Tryz.ntmps119
 go_wp2_with fail
 go_end0
 exact ⟨rfl, H2, K2⟩
theorem take_ok (r n c g o a k : Nat) (b : Int) (s : ByteArray) (hk : a + k ≤ n) (hn : n ≤ c) (hac : a < c) (hn2 : c ≤ 9223372036854775807) (w : World) (h : Rd w r (.slice (some ⟨g, o, none⟩) n c) (a : Int) s b) :
   Calls Tryz.prog 90 #[.pointer (some ⟨r, 0, none⟩), .int .i64 (k : Int)] w fun e w' => e = .returned (.slice (some ⟨g, o + a, none⟩) k (c - a)) ∧ Rd w' r (.slice (some ⟨g, o, none⟩) n c) ((a : Int) + (k : Int)) s b ∧ Chg w w' [r] := by
 have c0 := h.c0
 have c1 := h.c1
 have f1 := Blk.frozen h 1
 have e1 : IntKind.i64.wrap ((n : Int) - (a : Int)) = (n : Int) - (a : Int) := by rw [IntKind.wrap_i64]; omega
 have e2' : ¬ (n : Int) - (a : Int) < (k : Int) := by omega
 obtain ⟨q, hq⟩ : ∃ q : Nat, a + k = q := ⟨_, rfl⟩
 have e3 : IntKind.i64.wrap ((a : Int) + (k : Int)) = (q : Int) := by rw [IntKind.wrap_i64]; omega
 have eq : (a : Int) + (k : Int) = (q : Int) := by omega
 rw [eq]
 have HA : Hid (a + k ≤ n ∧ n ≤ c ∧ a < c ∧ c ≤ 9223372036854775807 ∧ a + k = q) := ⟨hk, hn, hac, hn2, hq⟩
 have HR : Hid (Rd w r (.slice (some ⟨g, o, none⟩) n c) (a : Int) s b) := h
 clear hk hn hac hn2 h hq eq
 go_enter Tryz.func90, Tryz.ntmps90
 go_wp2_with fail
 go_quiet (fail)
 go_wp2_with fail
 have h2 : Rd ((w.drewN nq).setCell ⟨r, 1, none⟩ (.int .i64 (q : Int))) r (.slice (some ⟨g, o, none⟩) n c) (q : Int) s b := (Blk.drewN HR.out nq).setCell 1 _
 have K2 : Chg w ((w.drewN nq).setCell ⟨r, 1, none⟩ (.int .i64 (q : Int))) [r] := ((Chg.refl w [r]).drewN nq).setIn (by simp) 1 _
 generalize ((w.drewN nq).setCell ⟨r, 1, none⟩ (.int .i64 (q : Int))) = W at *
 clear c0 c1 f1
 have d0 := h2.c0
 have d1 := h2.c1
 have e4 : IntKind.i64.wrap ((q : Int) - (k : Int)) = (a : Int) := by have := HA.out; rw [IntKind.wrap_i64]; omega
 have l1 : (0 : Int) ≤ (a : Int) := by omega
 have l2 : (a : Int) ≤ (q : Int) := by have := HA.out; omega
 have l3 : (q : Int) ≤ (c : Int) := by have := HA.out; omega
 have l4 : q - a = k := by have := HA.out; omega
 have l6 : ¬ c - a = 0 := by have := HA.out; omega
 have l7 : ¬ c = a := by have := HA.out; omega
 have l8 : (0 : Int) ≤ (q : Int) := by omega
 go_quiet (fail)
 go_wp2_with fail
 go_ret
 exact ⟨rfl, Blk.drewN h2 _, K2.drewN _⟩
end Go.Proofs.YtgjclegpnbjlkaaGreatDoor

set_option linter.all false
namespace Go.Proofs.YtgjclegpnbjlkaaGreatDoor
set_option maxHeartbeats 4000000
set_option maxRecDepth 100000
open Go.RowKit
theorem Ft.lw {w : World} {base base' : Nat} {v : Value} {s : ByteArray} {a y : Int} (h : Ft w base v s a y) (hb : base' ≤ base) : Ft w base' v s a y := by
 obtain ⟨g, h1, h2, h3⟩ := h
 exact ⟨g, h1, by omega, h3⟩
theorem wrong_s (r : Nat) (v : Value) (a b y : Int) (s : ByteArray) (w : World) (h : Rd w r v a s b) : Calls Tryz.prog 110 #[.pointer (some ⟨r, 0, none⟩), .int .i64 y] w fun e w' => Gu w.heap.size s b y e w' ∧ Chg w w' [] := by
 have HR : Hid (Rd w r v a s b) := h
 clear h
 go_enter Tryz.func110, Tryz.ntmps110
 go_wp2_with fail
 refine wp_region_held_drew (S := fun w' => Chg w w' []) (by kernel_rfl) ((Chg.refl w _).drew) (fun hHeld => ?_)
 refine tv ?_ 0 (some 4) rfl (fun w hSw => ?_) hHeld ?_; rotate_left; (· (go_simp; try with_reducible rfl)); try simp only [Act.put, sA]
 refine tv ?_ 1 (some 5) rfl (fun w hSw => ?_) hHeld ?_; rotate_left; (· (go_simp; try with_reducible rfl)); try simp only [Act.put, sA]
 refine tv ?_ 2 (some 6) rfl (fun w hSw => ?_) hHeld ?_; rotate_left; (· (go_simp; try with_reducible rfl)); try simp only [Act.put, sA]
 refine tv (.string s) 3 (some 7) rfl (fun w hSw => ?_) hHeld ?_
 · have c4 := (HR.out.chg hSw (by simp)).c2
   (go_simp; try with_reducible rfl)
 try simp only [Act.put, sA]
 refine tv ?_ 4 (some 8) rfl (fun w hSw => ?_) hHeld ?_; rotate_left; (· (go_simp; try with_reducible rfl)); try simp only [Act.put, sA]
 refine tv ?_ 5 (some 9) rfl (fun w hSw => ?_) hHeld ?_; rotate_left; (· (go_simp; try with_reducible rfl)); try simp only [Act.put, sA]
 refine tv ?_ 6 (some 10) rfl (fun w hSw => ?_) hHeld ?_; rotate_left; (· (go_simp; try with_reducible rfl)); try simp only [Act.put, sA]
 refine tv (.int .i64 b) 7 (some 11) rfl (fun w hSw => ?_) hHeld ?_
 · have c4 := (HR.out.chg hSw (by simp)).c3
   (go_simp; try with_reducible rfl)
 try simp only [Act.put, sA]
 refine tv ?_ 8 (some 12) rfl (fun w hSw => ?_) hHeld ?_; rotate_left; (· (go_simp; try with_reducible rfl)); try simp only [Act.put, sA]
 refine wpAnyH_ready (rs := [9]) (by kernel_rfl) (by simp) ?_
 refine AllReadyH.cons (o := _) rfl (fun K hK => ?_) ?_
 ·
   go_simp
   refine (giveUp_s s b y _).mono ?_
   rintro e w5 ⟨⟨v5, rfl, hf⟩, k5⟩
   exact ⟨rfl, ⟨v5, rfl, hf.lw hHeld.size⟩, hHeld.trans1 k5⟩
 exact AllReadyH.nil
theorem take_gu (r n c k : Nat) (p : Option Addr) (a : Nat) (b : Int) (s : ByteArray) (hk : n < a + k) (hn : n ≤ 9223372036854775807) (ha : a ≤ n) (hk2 : k ≤ 9223372036854775807) (w : World) (h : Rd w r (.slice p n c) (a : Int) s b) :
   Calls Tryz.prog 90 #[.pointer (some ⟨r, 0, none⟩), .int .i64 (k : Int)] w fun e w' => Gu w.heap.size s b 3 e w' ∧ Chg w w' [] := by
 have c0 := h.c0
 have c1 := h.c1
 have e1 : IntKind.i64.wrap ((n : Int) - (a : Int)) = (n : Int) - (a : Int) := by rw [IntKind.wrap_i64]; omega
 have e2 : (n : Int) - (a : Int) < (k : Int) := by omega
 have HR : Hid (Rd w r (.slice p n c) (a : Int) s b) := h
 clear hk hn ha hk2 h
 go_enter Tryz.func90, Tryz.ntmps90
 go_wp2_with fail
 go_quiet (fail)
 go_wp2_with fail
 refine (wrong_s r _ _ b 3 s _ (Blk.drewN HR.out _)).mono ?_
 rintro e w5 ⟨⟨v5, rfl, hf⟩, k5⟩
 exact ⟨rfl, ⟨v5, rfl, hf⟩, ((Chg.refl w []).drewN _).trans1 k5⟩
end Go.Proofs.YtgjclegpnbjlkaaGreatDoor

set_option linter.all false
namespace Go.Proofs.YtgjclegpnbjlkaaGreatDoor
set_option maxHeartbeats 4000000
set_option maxRecDepth 100000
open Go.RowKit
def sTail : ByteArray := ⟨#[116, 97, 105, 108]⟩
theorem end_ok (r n c : Nat) (p : Option Addr) (b : Int) (s : ByteArray) (w : World) (h : Rd w r (.slice p n c) (n : Int) s b) :
   Calls Tryz.prog 106 #[.pointer (some ⟨r, 0, none⟩)] w fun e w' => e = .returned (.tuple #[]) ∧ Rd w' r (.slice p n c) (n : Int) sTail (n : Int) ∧ Chg w w' [r] := by
 have q := begin_s r _ _ b s sTail w h
 have hl : ¬ (n : Int) < (n : Int) := by omega
 clear h
 go_enter Tryz.func106, Tryz.ntmps106
 go_wp2_with fail
 refine q.mono ?_
 rintro e w2 ⟨rfl, h2, k2⟩
 have c0 := h2.c0
 have c1 := h2.c1
 go_wp2_with fail
 go_quiet (fail)
 go_wp2_with fail
 go_end0
 exact ⟨rfl, Blk.drewN h2 _, k2.drewN _⟩
theorem end_gu (r n c a : Nat) (p : Option Addr) (b : Int) (s : ByteArray) (ha : a < n) (w : World) (h : Rd w r (.slice p n c) (a : Int) s b) :
   Calls Tryz.prog 106 #[.pointer (some ⟨r, 0, none⟩)] w fun e w' => Gu w.heap.size sTail (a : Int) 104 e w' ∧ Chg w w' [r] := by
 have q := begin_s r _ _ b s sTail w h
 have hl : (a : Int) < (n : Int) := by omega
 clear h ha
 go_enter Tryz.func106, Tryz.ntmps106
 go_wp2_with fail
 refine q.mono ?_
 rintro e w2 ⟨rfl, h2, k2⟩
 have c0 := h2.c0
 have c1 := h2.c1
 have HR : Hid (Rd w2 r (.slice p n c) (a : Int) sTail (a : Int)) := h2
 go_wp2_with fail
 go_quiet (fail)
 go_wp2_with fail
 refine (wrong_s r _ _ (a : Int) 104 sTail _ (Blk.drewN HR.out _)).mono ?_
 rintro e w5 ⟨⟨v5, rfl, hf⟩, k5⟩
 exact ⟨rfl, ⟨v5, rfl, hf.lw k2.size⟩, (k2.drewN _).trans1 k5.wide⟩
end Go.Proofs.YtgjclegpnbjlkaaGreatDoor

set_option linter.all false
namespace Go.Proofs.YtgjclegpnbjlkaaGreatDoor
set_option maxHeartbeats 4000000
set_option maxRecDepth 100000
open Go.RowKit
theorem zero32 : (Tryz.prog.info? 23).bind (·.zero) = some (.agg (yC 32 (fun _ => 0))) := by kernel_rfl
theorem w32Info : (Tryz.prog.info? 23).map (·.size) = some 32 := by kernel_rfl
theorem Bs.rg {w : World} {g o n : Nat} {f : Nat → Nat} (h : Bs w g o n f) : w.rangeAt g o (yL n f) := fun j v hv => by
 obtain ⟨hj, rfl⟩ := yL_some _ _ _ _ hv
 exact h.cell j hj
theorem word_ok (r n c g o a : Nat) (F : Nat → Nat) (b : Int) (s s' : ByteArray) (hk : a + 32 ≤ n) (hn : n ≤ c) (hn2 : c ≤ 9223372036854775807) (w : World) (h : Rd w r (.slice (some ⟨g, o, none⟩) n c) (a : Int) s b) (hB : Bs w g o n F) (hgr : ¬ g = r) :
   Calls Tryz.prog 99 #[.pointer (some ⟨r, 0, none⟩), .string s'] w fun e w' => e = .returned (.agg (yC 32 (fun j => F (a + j)))) ∧ Rd w' r (.slice (some ⟨g, o, none⟩) n c) ((a : Int) + ((32 : Nat) : Int)) s' (a : Int) ∧ Chg w w' [r] := by
 have HA : Hid (a + 32 ≤ n ∧ n ≤ c ∧ c ≤ 9223372036854775807) := ⟨hk, hn, hn2⟩
 have HR : Hid (Rd w r (.slice (some ⟨g, o, none⟩) n c) (a : Int) s b) := h
 have HB : Hid (Bs w g o n F) := hB
 have HG : Hid (¬ g = r) := hgr
 have HL : Hid (r < w.heap.size) := Blk.lt h
 clear hk hn hn2 h hB hgr
 go_enter Tryz.func99, Tryz.ntmps99
 go_wp2_with (with_reducible refine alloc_w rfl 23 rfl (.agg (yC 32 (fun _ => 0))) zero32 (yC 32 (fun _ => 0)) rfl ?_; intro rb w1 hrb BR k1)
 refine (begin_s r _ _ b s s' w1 (HR.out.chg k1 (by simp))).mono ?_
 rintro e w2 ⟨rfl, h2, k2⟩
 go_wp2_with fail
 --CUT0
 refine (take_ok r n c g o a 32 _ _ (by have := HA.out; omega) HA.out.2.1 (by have := HA.out; omega) HA.out.2.2 w2 h2).mono ?_
 rintro e w3 ⟨rfl, h3, k3⟩
 have C3 : Chg w w3 [r] := ((k1.wide).trans1 k2).trans1 k3
 have B3 := ((HB.out.chg C3 (by simp; exact HG.out)).sub a 32 HA.out.1).rg
 have hat : ∀ W, (Instr.arrayAt 23 (.slice (some ⟨g, o + a, none⟩) 32 (c - a))).run Tryz.prog W = .ok (.pointer (some ⟨g, o + a, none⟩)) W := fun W => run_arrayAt (w := W) 23 _ 32 _ 32 (c - a) Tryz.underlying23 (by omega)
 have BR3 := (BR.chg k2 (by have := HL.out; simp; omega)).chg k3 (by have := HL.out; simp; omega)
 clear BR
 go_wp2_with (first
   | (refine wpList_load_mid rfl 23 _ rfl g (o + a) rfl (yL 32 (fun j => F (a + j))) _ B3 Tryz.underlying23 rfl (by rw [yL_len]; exact w32Info) ?_)
   | (refine store_w BR3 rfl 23 _ _ (yC 32 (fun j => F (a + j))) rfl rfl rfl w32Info rfl (yC_one 32 _) ?_; intro w5 BR5 k5))
 exact bodyPost_ret (results_cell_row Tryz.results99 _ _ rb 23 (yC 32 (fun j => F (a + j))) (0, 0) _ rfl BR5 Tryz.underlying23 rfl w32Info) rfl ⟨rfl, h3.chg k5 (by have := HL.out; simp; omega), C3.new k5 hrb⟩
theorem word_gu (r n c a : Nat) (p : Option Addr) (b : Int) (s s' : ByteArray) (hk : n < a + 32) (ha : a ≤ n) (hn : n ≤ 9223372036854775807) (w : World) (h : Rd w r (.slice p n c) (a : Int) s b) :
   Calls Tryz.prog 99 #[.pointer (some ⟨r, 0, none⟩), .string s'] w fun e w' => Gu w.heap.size s' (a : Int) 3 e w' ∧ Chg w w' [r] := by
 have HA : Hid (n < a + 32 ∧ a ≤ n ∧ n ≤ 9223372036854775807) := ⟨hk, ha, hn⟩
 have HR : Hid (Rd w r (.slice p n c) (a : Int) s b) := h
 clear hk ha hn h
 go_enter Tryz.func99, Tryz.ntmps99
 go_wp2_with (with_reducible refine alloc_w rfl 23 rfl (.agg (yC 32 (fun _ => 0))) zero32 (yC 32 (fun _ => 0)) rfl ?_; intro rb w1 hrb BR k1)
 refine (begin_s r _ _ b s s' w1 (HR.out.chg k1 (by simp))).mono ?_
 rintro e w2 ⟨rfl, h2, k2⟩
 go_wp2_with fail
 refine (take_gu r n c 32 p a _ s' (by have := HA.out; omega) HA.out.2.2 HA.out.2.1 (by omega) w2 h2).mono ?_
 rintro e w5 ⟨⟨v5, rfl, hf⟩, k5⟩
 exact ⟨rfl, ⟨v5, rfl, hf.lw (Nat.le_trans k1.size k2.size)⟩, ((k1.wide).trans1 k2).trans1 k5.wide⟩
end Go.Proofs.YtgjclegpnbjlkaaGreatDoor

set_option linter.all false
namespace Go.Proofs.YtgjclegpnbjlkaaGreatDoor
set_option maxHeartbeats 4000000
set_option maxRecDepth 100000
open Go.RowKit
def nm (F : Nat → Nat) (a : Nat) : Nat → Nat
 | 0 => 0
 | i + 1 => nm F a i * 256 + F (a + i)
theorem nm_lt (F : Nat → Nat) (a : Nat) : ∀ i, (∀ j, j < i → F (a + j) < 256) → nm F a i < 256 ^ i
 | 0, _ => by unfold nm; decide
 | i + 1, h => by
   have := nm_lt F a i (fun j hj => h j (by omega))
   have := h i (by omega)
   unfold nm
   rw [Nat.pow_succ]
   omega
theorem or8 (x b : Nat) (hx : x < 16777216) (hb : b < 256) : bits .or .u32 ((x : Int) * 256 % 4294967296) (b : Int) = ((x * 256 + b : Nat) : Int) := by
 have e : ((x : Int) * 256 % 4294967296) = ((x * 256 : Nat) : Int) := by omega
 rw [e, u32_or_nat (x * 256) b (by omega) (by omega), nat_join 8 (x * 256) b (by omega) (by omega)]
theorem number_ok (r n c g o a k : Nat) (F : Nat → Nat) (b : Int) (s : ByteArray) (hk4 : k ≤ 4) (hk : a + k ≤ n) (hn : n ≤ c) (hac : a < c) (hn2 : c ≤ 9223372036854775807) (w : World) (h : Rd w r (.slice (some ⟨g, o, none⟩) n c) (a : Int) s b) (hB : Bs w g o n F) (hgr : ¬ g = r) :
   Calls Tryz.prog 91 #[.pointer (some ⟨r, 0, none⟩), .int .i64 (k : Int)] w fun e w' => e = .returned (.int .u32 ((nm F a k : Nat) : Int)) ∧ Rd w' r (.slice (some ⟨g, o, none⟩) n c) ((a : Int) + (k : Int)) s b ∧ Chg w w' [r] := by
 have HA : Hid (k ≤ 4 ∧ a + k ≤ n ∧ n ≤ c ∧ a < c ∧ c ≤ 9223372036854775807) := ⟨hk4, hk, hn, hac, hn2⟩
 have HR : Hid (Rd w r (.slice (some ⟨g, o, none⟩) n c) (a : Int) s b) := h
 have HB : Hid (Bs w g o n F) := hB
 have HG : Hid (¬ g = r) := hgr
 clear hk hn hn2 h hB hgr hk4 hac
 go_enter Tryz.func91, Tryz.ntmps91
 go_wp2_with fail
 refine (take_ok r n c g o a k _ _ HA.out.2.1 HA.out.2.2.1 HA.out.2.2.2.1 HA.out.2.2.2.2 w HR.out).mono ?_
 rintro e w3 ⟨rfl, h3, k3⟩
 have B3 := (HB.out.chg k3 (by simp; exact HG.out)).sub a k HA.out.2.1
 go_wp2_with fail
 --CUT0
 go_loopw [5, 12] (fun t5 t12 wr => ∃ i : Nat, i ≤ k ∧ t12 = .int .i64 (i : Int) ∧ t5 = .int .u32 ((nm F a i : Nat) : Int) ∧ wr = w3) (fun _ t _ => ((k : Int) - intOf t).toNat)
 case atStart => exact ⟨0, by omega, rfl, rfl, rfl⟩
 case round =>
   obtain ⟨i, hi, rfl, rfl, rfl⟩ := hrel
   by_cases h8 : i = k
   · subst h8
     have hI : ¬ (i : Int) < (i : Int) := by omega
     go_wp2_with fail
     go_ret
     exact ⟨rfl, h3, k3⟩
   · have hlt : i < k := by omega
     have hI : (i : Int) < (k : Int) := by omega
     have hi0 : (0 : Int) ≤ (i : Int) := by omega
     have ew : IntKind.i64.wrap ((i : Int) + 1) = (i : Int) + 1 := by have := HA.out; rw [IntKind.wrap_i64]; omega
     have cb := B3.cell i hlt
     have hb := B3.bd i hlt
     go_wp2_with fail
     have hx : nm F a i < 16777216 := by
       have q := nm_lt F a i (fun j hj => B3.bd j (by omega))
       have : 256 ^ i ≤ 256 ^ 3 := Nat.pow_le_pow_right (by omega) (by have := HA.out; omega)
       omega
     refine ⟨⟨i + 1, hlt, by go_num, ?_, trivial⟩, by simp [intOf]; omega⟩
     rw [or8 _ _ hx hb]
     rfl
end Go.Proofs.YtgjclegpnbjlkaaGreatDoor
