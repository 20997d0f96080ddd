/- Joined: W3, W4. -/
import Derived.Test.YtgjclegpnbjlkaaGreatDoorMwT
import Derived.Lib.AppendZerosOnto
set_option linter.all false
namespace Go.Proofs.YtgjclegpnbjlkaaGreatDoor
set_option maxHeartbeats 4000000
set_option maxRecDepth 100000
open Go.RowKit
theorem grow_w {w : World} {ops : Array Oper} {rest : List Oper} {o : Oper} {a : Act} {Q : Exit → Act → World → Prop} (hgd : o.guard = none) (so xo : Operand) (ho : o.op = .call { callee := .builtin .append, args := #[so, xo], argTypes := #[29, 3] })
   (vs vx v' : Value) (w' : World) (hs : a.eval so = vs) (hx : a.eval xo = vx) (hrun : ∀ ty, (Builtin.append_ #[29, 3] ty #[vs, vx]).run Tryz.prog w = .ok v' w') (h : wpList Tryz.prog ops Q rest (a.put o.dst v') w') : wpList Tryz.prog ops Q (o :: rest) a w := by
 refine wpList_plain hgd fun K hK => ?_
 unfold Oper.wp execOp
 simp only [ho, resolve, invoke, builtin, Sem.run_bind, Sem.run_pure, Result.andThen_ok, List.map_toArray, List.map_cons, List.map_nil, hs, hx, hrun]
 exact hK _ _ h
theorem Grow_s (n : Nat) (h0 : 0 < n) (hn : n ≤ 1000000000) (w : World) :
   Calls Tryz.prog 78 #[.slice none 0 0, .int .i64 (n : Int)] w fun e w' => ∃ v', e = .returned v' ∧ (∀ f, Own w' w.heap.size v' 0 f) ∧ Chg w w' [] := by
 obtain ⟨i, hi, hz, h1, h2⟩ := u8Row
 have hge := grownCap_ge w n 0 5
 have hle := grownCap_le_maxLen w n 0 5 (by unfold maxLen; omega)
 obtain ⟨G, hG⟩ : ∃ G, G = grownCap w n 0 5 := ⟨_, rfl⟩
 rw [← hG] at hge hle
 have hrz : ∃ C : Array Value, C.size = G ∧ ∀ ty, (Builtin.append_ #[29, 3] ty #[.slice none 0 0, .int .i64 (n : Int)]).run Tryz.prog w = .ok (.slice (some ⟨w.heap.size, 0, none⟩) n G) (w.drew.alloc (.cells C 5)) := by
   have q := fun ty => Lib.run_append_grow_zeros w 29 3 ty 5 i (.int .u8 0) .i64 .i64 Tryz.underlying29 Tryz.underlying3 hi hz none 0 0 [] (run_firstCells_none w.drew i.size 0 0 0) n h0 (by omega) (by omega) (by omega) (by rw [h2]; omega) (by rw [h2]; exact growslice_fits_wide (by omega) (by omega))
   simp only [Nat.zero_add, ← hG] at q
   exact ⟨_, by simp [Builtin.zeroCells, Value.cells]; omega, q⟩
 clear hG
 obtain ⟨C, hC, hrun⟩ := hrz
 have ew : IntKind.i64.wrap (n : Int) = (n : Int) := by rw [IntKind.wrap_i64]; omega
 have hpos : (0 : Int) < (n : Int) := by omega
 have hnn : ¬ (n : Int) < 0 := by omega
 have HG : Hid (n ≤ G ∧ G ≤ maxLen ∧ C.size = G) := ⟨hge, hle, hC⟩
 have hG0 : (0 : Int) ≤ (G : Int) := by omega
 clear hz hi h0 hn hge hle hC
 go_enter Tryz.func78, Tryz.ntmps78
 go_wp2_with (with_reducible refine grow_w ?_ (.tmp 20) (.tmp 21) ?_ (.slice none 0 0) (.int .i64 (n : Int)) _ _ ?_ ?_ hrun ?_
              · rfl
              · rfl
              · rfl
              · rfl)
 go_ret
 refine ⟨_, rfl, fun f => ⟨⟨by simp [yL], Or.inr ⟨w.heap.size, G, C, rfl, Nat.le_refl _, ?_, by omega, HG.out.2.1, by rw [HG.out.2.2, Nat.mul_one], by simp [yL]⟩⟩, fun i hi => by omega⟩, ((Chg.refl w []).drew).alloc _⟩
 exact Blk.new w.drew C 5
end Go.Proofs.YtgjclegpnbjlkaaGreatDoor

set_option linter.all false
namespace Go.Proofs.YtgjclegpnbjlkaaGreatDoor
set_option maxHeartbeats 8000000
set_option maxRecDepth 100000
open Go.RowKit
theorem Sl.fm {w : World} {v : Value} {n : Nat} {f : Nat → Nat} (h : Sl w v n f) : ∃ p c, v = .slice p n c := by
 rcases h with ⟨rfl, rfl⟩ | ⟨g, o, c, rfl, _⟩
 · exact ⟨_, _, rfl⟩
 · exact ⟨_, _, rfl⟩
def szf (n1 n2 i : Nat) : Nat := if i = 0 then 0 else if i = 1 then n1 else n1 + n2
def ctf (f1 f2 : Nat → Nat) (n1 i : Nat) : Nat → Nat := if i < 2 then f1 else cat f1 n1 f2
theorem Concat_2 (g c : Nat) (v1 v2 : Value) (n1 n2 : Nat) (f1 f2 : Nat → Nat) (h0 : 0 < n1 + n2) (hn : n1 + n2 ≤ 1000000000) (w : World) (hB : Blk w g #[v1, v2] 29) (h1 : Sl w v1 n1 f1) (h2 : Sl w v2 n2 f2) :
   Calls Tryz.prog 30 #[.slice (some ⟨g, 0, none⟩) 2 c] w fun e w' => ∃ v', e = .returned v' ∧ Own w' w.heap.size v' (n1 + n2) (cat f1 n1 f2) ∧ Chg w w' [] := by
 have HN : Hid (0 < n1 + n2 ∧ n1 + n2 ≤ 1000000000) := ⟨h0, hn⟩
 have H1 : Hid (∀ W, Chg w W [] → Sl W v1 n1 f1) := fun W h => h1.chg h (Off.nil _)
 have H2 : Hid (∀ W, Chg w W [] → Sl W v2 n2 f2) := fun W h => h2.chg h (Off.nil _)
 have HC1 : Hid (∀ W, Chg w W [] → W.cell? ⟨g, 0, none⟩ = some v1) := fun W h => by rw [(hB.chg h (by simp)).cell]; rfl
 have HC2 : Hid (∀ W, Chg w W [] → W.cell? ⟨g, 1, none⟩ = some v2) := fun W h => by rw [(hB.chg h (by simp)).cell]; rfl
 obtain ⟨p1, c1, rfl⟩ := h1.fm
 obtain ⟨p2, c2, rfl⟩ := h2.fm
 clear h0 hn h1 h2 hB
 go_enter Tryz.func30, Tryz.ntmps30
 go_wp2_with fail
 --CUT0
 go_loopw [3, 11] (fun t3 t11 wr => ∃ i : Nat, i ≤ 2 ∧ t3 = .int .i64 ((szf n1 n2 i : Nat) : Int) ∧ t11 = .int .i64 (i : Int) ∧ wr = w) (fun _ t _ => (2 - intOf t).toNat)
 case atStart => exact ⟨0, by omega, rfl, rfl, rfl⟩
 case round =>
   obtain ⟨i, hi, rfl, rfl, rfl⟩ := hrel
   obtain ⟨w0, hw0⟩ : ∃ z, z = wr := ⟨_, rfl⟩
   subst hw0
   obtain rfl | rfl | rfl : i = 0 ∨ i = 1 ∨ i = 2 := by omega
   · have ca := HC1.out _ (Chg.refl _ _)
     have ew : IntKind.i64.wrap ((n1 : Nat) : Int) = ((n1 : Nat) : Int) := by have := HN.out; rw [IntKind.wrap_i64]; omega
     have es : szf n1 n2 0 = 0 := rfl
     have hl : ¬ ((n1 : Nat) : Int) < 0 := by omega
     rw [es]
     go_wp2_with fail
     --CUT1
     exact ⟨⟨1, by omega, rfl, rfl, by trivial⟩, by decide⟩
   · have ca := HC2.out _ (Chg.refl _ _)
     have es : szf n1 n2 1 = n1 := rfl
     have ew : IntKind.i64.wrap (((n1 : Nat) : Int) + ((n2 : Nat) : Int)) = ((n1 : Nat) : Int) + ((n2 : Nat) : Int) := by have := HN.out; rw [IntKind.wrap_i64]; omega
     have hl : ¬ ((n1 : Nat) : Int) + ((n2 : Nat) : Int) < 0 := by omega
     rw [es]
     go_wp2_with fail
     --CUT2
     exact ⟨⟨2, by omega, by show _ = Value.int .i64 ((n1 + n2 : Nat) : Int); simp, rfl, by trivial⟩, by decide⟩
   · have es : szf n1 n2 2 = n1 + n2 := rfl
     rw [es]
     go_wp2_with fail
     --CUT3
     refine (Grow_s (n1 + n2) HN.out.1 HN.out.2 _).mono ?_
     rintro e w2 ⟨v', rfl, O, k⟩
     have O0 : Own w2 w0.heap.size v' (szf n1 n2 0) (ctf f1 f2 n1 0) := O _
     have HB : Hid (w0.heap.size ≤ w2.heap.size) := k.size
     clear O
     go_wp2_with fail
     --CUT4
     go_loopw [6, 27] (fun t6 t27 wq => ∃ i : Nat, i ≤ 2 ∧ t27 = .int .i64 (i : Int) ∧ Own wq w0.heap.size t6 (szf n1 n2 i) (ctf f1 f2 n1 i) ∧ Chg w0 wq []) (fun _ t _ => (2 - intOf t).toNat)
     case atStart => exact ⟨0, by omega, rfl, O0, k⟩
     case round =>
       clear O0 k HB
       obtain ⟨i, hi, rfl, Oi, C⟩ := hrel
       obtain rfl | rfl | rfl : i = 0 ∨ i = 1 ∨ i = 2 := by omega
       · have ca := HC1.out _ C
         have HS := H1.out _ C
         go_wp2_with (first
           | (with_reducible refine append_y ?_ (.tmp 31) (.tmp 32) ?_ w0.heap.size _ _ _ n1 _ f1 ?_ ?_ Oi HS ?_ ?_ ?_
              · rfl
              · rfl
              · rfl
              · rfl
              · have := HN.out; unfold szf; simp; omega
              · exact C.size
              intro v5 w5 O5 k5))
         have O6 : Own w5 w0.heap.size v5 (szf n1 n2 1) (ctf f1 f2 n1 1) := by
           have e : szf n1 n2 0 + n1 = szf n1 n2 1 := Nat.zero_add n1
           rw [← e]
           exact O5.cg (fun j hj => by show cat _ 0 f1 j = f1 j; rw [cat_zero])
         exact ⟨⟨1, by omega, rfl, O6, C.trans k5 (fun x hx => Or.inr (Oi.ob_ge x hx).1)⟩, by decide⟩
       · have ca := HC2.out _ C
         have HS := H2.out _ C
         go_wp2_with (first
           | (with_reducible refine append_y ?_ (.tmp 31) (.tmp 32) ?_ w0.heap.size _ _ _ n2 _ f2 ?_ ?_ Oi HS ?_ ?_ ?_
              · rfl
              · rfl
              · rfl
              · rfl
              · have := HN.out; unfold szf; simp; omega
              · exact C.size
              intro v5 w5 O5 k5))
         exact ⟨⟨2, by omega, rfl, O5, C.trans k5 (fun x hx => Or.inr (Oi.ob_ge x hx).1)⟩, by decide⟩
       · go_wp2_with fail
         go_ret
         exact ⟨_, rfl, Oi, C⟩
end Go.Proofs.YtgjclegpnbjlkaaGreatDoor
