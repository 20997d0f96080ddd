/- wire: a word of 32 bytes. -/
import Derived.Test.YtjppbngimacgnaaGreatDoorW15
set_option linter.unusedVariables false
set_option linter.unusedSimpArgs false
set_option linter.unnecessarySimpa false
namespace Go.Proofs.YtjppbngimacgnaaGreatDoor
open Go.RowKit

theorem zero32 : (Tryz.prog.info? 46).bind (·.zero) = some (.agg (yC 32 (fun _ => 0))) := by kernel_rfl
theorem w32Info : (Tryz.prog.info? 46).map (·.size) = some 32 := by kernel_rfl
theorem Bs.rg {w : World} {g o n : Nat} {f : Nat → Nat} (h : Bs w g o n f) : w.rangeAt g o (yL n f) := fun j v hv => by
  obtain ⟨hj, rfl⟩ := yL_some _ _ _ _ hv
  exact h.cell j hj
set_option maxHeartbeats 4000000 in
set_option maxRecDepth 100000 in
theorem word_ok (r n c g o a : Nat) (F : Nat → Nat) (b : Int) (s s' : ByteArray) (hk : a + 32 ≤ n) (hn : n ≤ c) (hn2 : c ≤ 9223372036854775807) (w : World) (h : Rd w r (.slice (some ⟨g, o, none⟩) n c) (a : Int) s b) (hB : Bs w g o n F) (hgr : ¬ g = r) :
    Calls Tryz.prog 64 #[.pointer (some ⟨r, 0, none⟩), .string s'] w fun e w' => e = .returned (.agg (yC 32 (fun j => F (a + j)))) ∧ Rd w' r (.slice (some ⟨g, o, none⟩) n c) ((a : Int) + ((32 : Nat) : Int)) s' (a : Int) ∧ Chg w w' [r] := by
  have HA : Hid (a + 32 ≤ n ∧ n ≤ c ∧ c ≤ 9223372036854775807) := ⟨hk, hn, hn2⟩
  have HR : Hid (Rd w r (.slice (some ⟨g, o, none⟩) n c) (a : Int) s b) := h
  have HB : Hid (Bs w g o n F) := hB
  have HG : Hid (¬ g = r) := hgr
  have HL : Hid (r < w.heap.size) := Blk.lt h
  clear hk hn hn2 h hB hgr
  go_enter Tryz.func64, Tryz.ntmps64
  go_wp2_with (with_reducible refine alloc_w rfl 46 rfl (.agg (yC 32 (fun _ => 0))) zero32 (yC 32 (fun _ => 0)) rfl ?_; intro rb w1 hrb BR k1)
  refine (begin_s r _ _ b s s' w1 (HR.out.chg k1 (by simp))).mono ?_
  rintro e w2 ⟨rfl, h2, k2⟩
  go_wp2_with fail
  --CUT0
  refine (take_ok r n c g o a 32 _ _ (by have := HA.out; omega) HA.out.2.1 (by have := HA.out; omega) HA.out.2.2 w2 h2).mono ?_
  rintro e w3 ⟨rfl, h3, k3⟩
  have C3 : Chg w w3 [r] := ((k1.wide).trans1 k2).trans1 k3
  have B3 := ((HB.out.chg C3 (by simp; exact HG.out)).sub a 32 HA.out.1).rg
  have hat : ∀ W, (Instr.arrayAt 46 (.slice (some ⟨g, o + a, none⟩) 32 (c - a))).run Tryz.prog W = .ok (.pointer (some ⟨g, o + a, none⟩)) W := fun W => run_arrayAt (w := W) 46 _ 32 _ 32 (c - a) Tryz.underlying46 (by omega)
  have BR3 := (BR.chg k2 (by have := HL.out; simp; omega)).chg k3 (by have := HL.out; simp; omega)
  clear BR
  go_wp2_with (first
    | (refine wpList_load_mid rfl 46 _ rfl g (o + a) rfl (yL 32 (fun j => F (a + j))) _ B3 Tryz.underlying46 rfl (by rw [yL_len]; exact w32Info) ?_)
    | (refine store_w BR3 rfl 46 _ _ (yC 32 (fun j => F (a + j))) rfl rfl rfl w32Info rfl (yC_one 32 _) ?_; intro w5 BR5 k5))
  exact bodyPost_ret (results_cell_row Tryz.results64 _ _ rb 46 (yC 32 (fun j => F (a + j))) (0, 0) _ rfl BR5 Tryz.underlying46 rfl w32Info) rfl ⟨rfl, h3.chg k5 (by have := HL.out; simp; omega), C3.new k5 hrb⟩
set_option maxHeartbeats 4000000 in
set_option maxRecDepth 100000 in
theorem word_gu (r n c a : Nat) (p : Option Addr) (b : Int) (s s' : ByteArray) (hk : n < a + 32) (ha : a ≤ n) (hn : n ≤ 9223372036854775807) (w : World) (h : Rd w r (.slice p n c) (a : Int) s b) :
    Calls Tryz.prog 64 #[.pointer (some ⟨r, 0, none⟩), .string s'] w fun e w' => Gu w.heap.size s' (a : Int) 3 e w' ∧ Chg w w' [r] := by
  have HA : Hid (n < a + 32 ∧ a ≤ n ∧ n ≤ 9223372036854775807) := ⟨hk, ha, hn⟩
  have HR : Hid (Rd w r (.slice p n c) (a : Int) s b) := h
  clear hk ha hn h
  go_enter Tryz.func64, Tryz.ntmps64
  go_wp2_with (with_reducible refine alloc_w rfl 46 rfl (.agg (yC 32 (fun _ => 0))) zero32 (yC 32 (fun _ => 0)) rfl ?_; intro rb w1 hrb BR k1)
  refine (begin_s r _ _ b s s' w1 (HR.out.chg k1 (by simp))).mono ?_
  rintro e w2 ⟨rfl, h2, k2⟩
  go_wp2_with fail
  refine (take_gu r n c 32 p a _ s' (by have := HA.out; omega) HA.out.2.2 HA.out.2.1 (by omega) w2 h2).mono ?_
  rintro e w5 ⟨⟨v5, rfl, hf⟩, k5⟩
  exact ⟨rfl, ⟨v5, rfl, hf.lw (Nat.le_trans k1.size k2.size)⟩, ((k1.wide).trans1 k2).trans1 k5.wide⟩
end Go.Proofs.YtjppbngimacgnaaGreatDoor
