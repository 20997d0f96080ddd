/- Joined: W1, W3, W4. -/
import Derived.Test.YthpfdnkcepfbaaaDoorMgH
import Derived.Lib.AppendZerosOnto
import Derived.Deep.DeepAppendWide
/- wire: numbers and commitments as bytes. -/
set_option linter.unusedVariables false
set_option linter.unusedSimpArgs false
set_option linter.unnecessarySimpa false
namespace Go.Proofs.YthpfdnkcepfbaaaDoor
open Go.RowKit

theorem cat_as (f : Nat → Nat) (m : Nat) (g : Nat → Nat) (n : Nat) (h : Nat → Nat) (i : Nat) : cat (cat f m g) (m + n) h i = cat f m (cat g n h) i := by
  unfold cat
  by_cases a : i < m
  · rw [if_pos (show i < m + n by omega), if_pos a, if_pos a]
  · by_cases b : i < m + n
    · rw [if_pos b, if_neg a, if_neg a, if_pos (show i - m < n by omega)]
    · rw [if_neg b, if_neg a, if_neg (show ¬ i - m < n by omega), show i - (m + n) = i - m - n by omega]
theorem cat_at (f : Nat → Nat) (m : Nat) {g g' : Nat → Nat} {i : Nat} (h : ∀ j, g j = g' j) : cat f m g i = cat f m g' i := by
  unfold cat
  by_cases a : i < m
  · rw [if_pos a, if_pos a]
  · rw [if_neg a, if_neg a, h]
/-- Four bytes of a number, the highest first. -/
def b4 (n : Nat) : Nat → Nat := fun j => if j = 0 then n / 16777216 % 256 else if j = 1 then n / 65536 % 256 else if j = 2 then n / 256 % 256 else n % 256
theorem b4_lt (n j : Nat) : b4 n j < 256 := by unfold b4; split <;> (try split) <;> (try split) <;> omega
theorem u8_conv (x : Int) : IntKind.u8.wrap x = x % 256 := IntKind.wrap_u8' x
theorem sl_b4 (n : Nat) (hn : n < 4294967296) (w : World) : Sl (w.alloc (.cells #[.int .u8 ((n : Int) / 16777216), .int .u8 ((n : Int) / 65536 % 256), .int .u8 ((n : Int) / 256 % 256), .int .u8 ((n : Int) % 256)] 5)) (.slice (some ⟨w.heap.size, 0, none⟩) 4 4) 4 (b4 n) := by
  have e : #[Value.int .u8 ((n : Int) / 16777216), .int .u8 ((n : Int) / 65536 % 256), .int .u8 ((n : Int) / 256 % 256), .int .u8 ((n : Int) % 256)] = yC 4 (b4 n) := by
    have e0 : ((n : Int) / 16777216) = ((b4 n 0 : Nat) : Int) := by show _ = ((n / 16777216 % 256 : Nat) : Int); omega
    have e1 : ((n : Int) / 65536 % 256) = ((b4 n 1 : Nat) : Int) := by show _ = ((n / 65536 % 256 : Nat) : Int); omega
    have e2 : ((n : Int) / 256 % 256) = ((b4 n 2 : Nat) : Int) := by show _ = ((n / 256 % 256 : Nat) : Int); omega
    have e3 : ((n : Int) % 256) = ((b4 n 3 : Nat) : Int) := by show _ = ((n % 256 : Nat) : Int); omega
    rw [e0, e1, e2, e3]; rfl
  rw [e]
  exact (Blk.new w _ _).sly (fun i _ => b4_lt n i) (by omega)
/-- A commitment's cells, its bytes. -/
def cmC (d : Int) (h b : Nat → Nat) : Array Value := (.int .i64 d :: (yL 32 h ++ yL 32 b)).toArray
theorem cmC_size (d : Int) (h b : Nat → Nat) : (cmC d h b).size = 65 := by simp [cmC, yL]
def cmB (d : Nat) (h b : Nat → Nat) : Nat → Nat := fun j => if j = 0 then d else if j < 33 then h (j - 1) else b (j - 33)
theorem cm_id {w : World} {g : Nat} {d : Int} {h b : Nat → Nat} {T : TypeId} (B : Blk w g (cmC d h b) T) : w.cell? ⟨g, 0, none⟩ = some (.int .i64 d) := by rw [B.cell]; rfl
theorem cm_h {w : World} {g : Nat} {d : Int} {h b : Nat → Nat} {T : TypeId} (B : Blk w g (cmC d h b) T) (hh : ∀ i, i < 32 → h i < 256) : Bs w g 1 32 h := ⟨B.lt, hh, fun i hi => by
  rw [B.cell]
  unfold cmC
  rw [List.getElem?_toArray, Nat.add_comm 1 i, List.getElem?_cons_succ, List.getElem?_append_left (by rw [yL_len]; exact hi), yL_get _ _ _ hi]⟩
theorem cm_b {w : World} {g : Nat} {d : Int} {h b : Nat → Nat} {T : TypeId} (B : Blk w g (cmC d h b) T) (hb : ∀ i, i < 32 → b i < 256) : Bs w g 33 32 b := ⟨B.lt, hb, fun i hi => by
  rw [B.cell]
  unfold cmC
  rw [List.getElem?_toArray, show 33 + i = (32 + i) + 1 by omega, List.getElem?_cons_succ, List.getElem?_append_right (by rw [yL_len]; omega), yL_len, show 32 + i - 32 = i by omega, yL_get _ _ _ hi]⟩
theorem Bs.slQ {w : World} {g o n : Nat} {f : Nat → Nat} (h : Bs w g o n f) (c : Nat) (hc : n ≤ c) (hc2 : c ≤ 9223372036854775807) : Sl w (.slice (some ⟨g, o, none⟩) n c) n f := Or.inr ⟨g, o, c, rfl, hc, hc2, h⟩
theorem sl_b1 (d : Int) (hd : 0 ≤ d ∧ d < 256) (w : World) : Sl (w.alloc (.cells #[.int .u8 d] 5)) (.slice (some ⟨w.heap.size, 0, none⟩) 1 1) 1 (fun _ => d.toNat) := by
  have e : #[Value.int .u8 d] = yC 1 (fun _ => d.toNat) := by
    have e0 : d = ((d.toNat : Nat) : Int) := by omega
    rw [e0]; rfl
  rw [e]
  exact (Blk.new w _ _).sly (fun i _ => by omega) (by omega)
end Go.Proofs.YthpfdnkcepfbaaaDoor

/- slices.Grow of nothing, slices.Concat of two lists of bytes. -/
namespace Go.Proofs.YthpfdnkcepfbaaaDoor
open Go.RowKit

theorem grow_w {w : World} {ops : Array Oper} {rest : List Oper} {o : Oper} {a : Act} {Q : Exit → Act → World → Prop} (hgd : o.guard = none) (so xo : Operand) (ho : o.op = .call { callee := .builtin .append, args := #[so, xo], argTypes := #[22, 3] })
    (vs vx v' : Value) (w' : World) (hs : a.eval so = vs) (hx : a.eval xo = vx) (hrun : ∀ ty, (Builtin.append_ #[22, 3] ty #[vs, vx]).run Tryd.prog w = .ok v' w') (h : wpList Tryd.prog ops Q rest (a.put o.dst v') w') : wpList Tryd.prog ops Q (o :: rest) a w := by
  refine wpList_plain hgd fun K hK => ?_
  unfold Oper.wp execOp
  simp only [ho, resolve, invoke, builtin, Sem.run_bind, Sem.run_pure, Result.andThen_ok, List.map_toArray, List.map_cons, List.map_nil, hs, hx, hrun]
  exact hK _ _ h
set_option maxHeartbeats 4000000 in
set_option maxRecDepth 100000 in
theorem Grow_s (n : Nat) (h0 : 0 < n) (hn : n ≤ 1000000000) (w : World) :
    Calls Tryd.prog 142 #[.slice none 0 0, .int .i64 (n : Int)] w fun e w' => ∃ v', e = .returned v' ∧ (∀ f, Own w' w.heap.size v' 0 f) ∧ Chg w w' [] := by
  obtain ⟨i, hi, hz, h1, h2⟩ := u8Row
  have hge := grownCap_ge w n 0 5
  have hle := grownCap_le_maxLen w n 0 5 (by unfold maxLen; omega)
  obtain ⟨G, hG⟩ : ∃ G, G = grownCap w n 0 5 := ⟨_, rfl⟩
  rw [← hG] at hge hle
  have hrz : ∃ C : Array Value, C.size = G ∧ ∀ ty, (Builtin.append_ #[22, 3] ty #[.slice none 0 0, .int .i64 (n : Int)]).run Tryd.prog w = .ok (.slice (some ⟨w.heap.size, 0, none⟩) n G) (w.drew.alloc (.cells C 5)) := by
    have q := fun ty => Lib.run_append_grow_zeros w 22 3 ty 5 i (.int .u8 0) .i64 .i64 Tryd.underlying22 Tryd.underlying3 hi hz none 0 0 [] (run_firstCells_none w.drew i.size 0 0 0) n h0 (by omega) (by omega) (by omega) (by rw [h2]; omega) (by rw [h2]; exact growslice_fits_wide (by omega) (by omega))
    simp only [Nat.zero_add, ← hG] at q
    exact ⟨_, by simp [Builtin.zeroCells, Value.cells]; omega, q⟩
  clear hG
  obtain ⟨C, hC, hrun⟩ := hrz
  have ew : IntKind.i64.wrap (n : Int) = (n : Int) := by rw [IntKind.wrap_i64]; omega
  have hpos : (0 : Int) < (n : Int) := by omega
  have hnn : ¬ (n : Int) < 0 := by omega
  have HG : Hid (n ≤ G ∧ G ≤ maxLen ∧ C.size = G) := ⟨hge, hle, hC⟩
  have hG0 : (0 : Int) ≤ (G : Int) := by omega
  clear hz hi h0 hn hge hle hC
  go_enter Tryd.func142, Tryd.ntmps142
  go_wp2_with (with_reducible refine grow_w ?_ (.tmp 20) (.tmp 21) ?_ (.slice none 0 0) (.int .i64 (n : Int)) _ _ ?_ ?_ hrun ?_
               · rfl
               · rfl
               · rfl
               · rfl)
  go_ret
  refine ⟨_, rfl, fun f => ⟨⟨by simp [yL], Or.inr ⟨w.heap.size, G, C, rfl, Nat.le_refl _, ?_, by omega, HG.out.2.1, by rw [HG.out.2.2, Nat.mul_one], by simp [yL]⟩⟩, fun i hi => by omega⟩, ((Chg.refl w []).drew).alloc _⟩
  exact Blk.new w.drew C 5
end Go.Proofs.YthpfdnkcepfbaaaDoor

/- slices.Concat of two lists of bytes. -/
namespace Go.Proofs.YthpfdnkcepfbaaaDoor
open Go.RowKit

theorem Sl.fm {w : World} {v : Value} {n : Nat} {f : Nat → Nat} (h : Sl w v n f) : ∃ p c, v = .slice p n c := by
  rcases h with ⟨rfl, rfl⟩ | ⟨g, o, c, rfl, _⟩
  · exact ⟨_, _, rfl⟩
  · exact ⟨_, _, rfl⟩
def szf (n1 n2 i : Nat) : Nat := if i = 0 then 0 else if i = 1 then n1 else n1 + n2
def ctf (f1 f2 : Nat → Nat) (n1 i : Nat) : Nat → Nat := if i < 2 then f1 else cat f1 n1 f2
set_option maxHeartbeats 8000000 in
set_option maxRecDepth 100000 in
theorem Concat_2 (g c : Nat) (v1 v2 : Value) (n1 n2 : Nat) (f1 f2 : Nat → Nat) (h0 : 0 < n1 + n2) (hn : n1 + n2 ≤ 1000000000) (w : World) (hB : Blk w g #[v1, v2] 22) (h1 : Sl w v1 n1 f1) (h2 : Sl w v2 n2 f2) :
    Calls Tryd.prog 105 #[.slice (some ⟨g, 0, none⟩) 2 c] w fun e w' => ∃ v', e = .returned v' ∧ Own w' w.heap.size v' (n1 + n2) (cat f1 n1 f2) ∧ Chg w w' [] := by
  have HN : Hid (0 < n1 + n2 ∧ n1 + n2 ≤ 1000000000) := ⟨h0, hn⟩
  have H1 : Hid (∀ W, Chg w W [] → Sl W v1 n1 f1) := fun W h => h1.chg h (Off.nil _)
  have H2 : Hid (∀ W, Chg w W [] → Sl W v2 n2 f2) := fun W h => h2.chg h (Off.nil _)
  have HC1 : Hid (∀ W, Chg w W [] → W.cell? ⟨g, 0, none⟩ = some v1) := fun W h => by rw [(hB.chg h (by simp)).cell]; rfl
  have HC2 : Hid (∀ W, Chg w W [] → W.cell? ⟨g, 1, none⟩ = some v2) := fun W h => by rw [(hB.chg h (by simp)).cell]; rfl
  obtain ⟨p1, c1, rfl⟩ := h1.fm
  obtain ⟨p2, c2, rfl⟩ := h2.fm
  clear h0 hn h1 h2 hB
  go_enter Tryd.func105, Tryd.ntmps105
  go_wp2_with fail
  --CUT0
  go_loopw [3, 11] (fun t3 t11 wr => ∃ i : Nat, i ≤ 2 ∧ t3 = .int .i64 ((szf n1 n2 i : Nat) : Int) ∧ t11 = .int .i64 (i : Int) ∧ wr = w) (fun _ t _ => (2 - intOf t).toNat)
  case atStart => exact ⟨0, by omega, rfl, rfl, rfl⟩
  case round =>
    obtain ⟨i, hi, rfl, rfl, rfl⟩ := hrel
    obtain ⟨w0, hw0⟩ : ∃ z, z = wr := ⟨_, rfl⟩
    subst hw0
    obtain rfl | rfl | rfl : i = 0 ∨ i = 1 ∨ i = 2 := by omega
    · have ca := HC1.out _ (Chg.refl _ _)
      have ew : IntKind.i64.wrap ((n1 : Nat) : Int) = ((n1 : Nat) : Int) := by have := HN.out; rw [IntKind.wrap_i64]; omega
      have es : szf n1 n2 0 = 0 := rfl
      have hl : ¬ ((n1 : Nat) : Int) < 0 := by omega
      rw [es]
      go_wp2_with fail
      --CUT1
      exact ⟨⟨1, by omega, rfl, rfl, by trivial⟩, by decide⟩
    · have ca := HC2.out _ (Chg.refl _ _)
      have es : szf n1 n2 1 = n1 := rfl
      have ew : IntKind.i64.wrap (((n1 : Nat) : Int) + ((n2 : Nat) : Int)) = ((n1 : Nat) : Int) + ((n2 : Nat) : Int) := by have := HN.out; rw [IntKind.wrap_i64]; omega
      have hl : ¬ ((n1 : Nat) : Int) + ((n2 : Nat) : Int) < 0 := by omega
      rw [es]
      go_wp2_with fail
      --CUT2
      exact ⟨⟨2, by omega, by show _ = Value.int .i64 ((n1 + n2 : Nat) : Int); simp, rfl, by trivial⟩, by decide⟩
    · have es : szf n1 n2 2 = n1 + n2 := rfl
      rw [es]
      go_wp2_with fail
      --CUT3
      refine (Grow_s (n1 + n2) HN.out.1 HN.out.2 _).mono ?_
      rintro e w2 ⟨v', rfl, O, k⟩
      have O0 : Own w2 w0.heap.size v' (szf n1 n2 0) (ctf f1 f2 n1 0) := O _
      have HB : Hid (w0.heap.size ≤ w2.heap.size) := k.size
      clear O
      go_wp2_with fail
      --CUT4
      go_loopw [6, 27] (fun t6 t27 wq => ∃ i : Nat, i ≤ 2 ∧ t27 = .int .i64 (i : Int) ∧ Own wq w0.heap.size t6 (szf n1 n2 i) (ctf f1 f2 n1 i) ∧ Chg w0 wq []) (fun _ t _ => (2 - intOf t).toNat)
      case atStart => exact ⟨0, by omega, rfl, O0, k⟩
      case round =>
        clear O0 k HB
        obtain ⟨i, hi, rfl, Oi, C⟩ := hrel
        obtain rfl | rfl | rfl : i = 0 ∨ i = 1 ∨ i = 2 := by omega
        · have ca := HC1.out _ C
          have HS := H1.out _ C
          go_wp2_with (first
            | (with_reducible refine append_y ?_ (.tmp 31) (.tmp 32) ?_ w0.heap.size _ _ _ n1 _ f1 ?_ ?_ Oi HS ?_ ?_ ?_
               · rfl
               · rfl
               · rfl
               · rfl
               · have := HN.out; unfold szf; simp; omega
               · exact C.size
               intro v5 w5 O5 k5))
          have O6 : Own w5 w0.heap.size v5 (szf n1 n2 1) (ctf f1 f2 n1 1) := by
            have e : szf n1 n2 0 + n1 = szf n1 n2 1 := Nat.zero_add n1
            rw [← e]
            exact O5.cg (fun j hj => by show cat _ 0 f1 j = f1 j; rw [cat_zero])
          exact ⟨⟨1, by omega, rfl, O6, C.trans k5 (fun x hx => Or.inr (Oi.ob_ge x hx).1)⟩, by decide⟩
        · have ca := HC2.out _ C
          have HS := H2.out _ C
          go_wp2_with (first
            | (with_reducible refine append_y ?_ (.tmp 31) (.tmp 32) ?_ w0.heap.size _ _ _ n2 _ f2 ?_ ?_ Oi HS ?_ ?_ ?_
               · rfl
               · rfl
               · rfl
               · rfl
               · have := HN.out; unfold szf; simp; omega
               · exact C.size
               intro v5 w5 O5 k5))
          exact ⟨⟨2, by omega, rfl, O5, C.trans k5 (fun x hx => Or.inr (Oi.ob_ge x hx).1)⟩, by decide⟩
        · go_wp2_with fail
          go_ret
          exact ⟨_, rfl, Oi, C⟩
end Go.Proofs.YthpfdnkcepfbaaaDoor
