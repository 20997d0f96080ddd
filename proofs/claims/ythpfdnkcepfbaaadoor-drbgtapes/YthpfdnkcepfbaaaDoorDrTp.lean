/- DrbgTapes: the walk. -/
import Derived.Test.YthpfdnkcepfbaaaDoorMgX
set_option linter.unusedVariables false
set_option linter.unusedSimpArgs false
set_option linter.unnecessarySimpa false
namespace Go.Proofs.YthpfdnkcepfbaaaDoor
open Go.RowKit N

/-- A []int. -/
def IL (w : World) (v : Value) (k : Nat) (f : Nat → Int) : Prop :=
  (k = 0 ∧ v = .slice none 0 0) ∨ ∃ g o cap, v = .slice (some ⟨g, o, none⟩) k cap ∧ k ≤ cap ∧ cap ≤ 9223372036854775807 ∧ g < w.heap.size ∧ ∀ i, i < k → w.cell? ⟨g, o + i, none⟩ = some (.int .i64 (f i))
theorem blk_rng {w : World} {g : Nat} {f : Nat → Nat} {T : TypeId} (B : Blk w g (yC 32 f) T) : w.rangeAt g 0 (yL 32 f) := fun j v hv => by
  obtain ⟨hj, rfl⟩ := yL_some _ _ _ _ hv
  rw [Nat.zero_add, B.cell, yC_get _ _ _ hj]
/-- A row stored within a block. -/
theorem store_row {w : World} {ops : Array Oper} {rest : List Oper} {op : Oper} {a : Act} {Q : Exit → Act → World → Prop} {g : Nat} {C : Array Value} {T : TypeId} (B : Blk w g C T) (hgd : op.guard = none) (ty : TypeId) (x y : Operand) (ho : op.op = .store ty x y) (at' : Nat) (cs : Array Value)
    (hx : a.eval x = .pointer (some ⟨g, at', none⟩)) (hy : a.eval y = .agg cs) (hs : at' + cs.size ≤ C.size) (hi : (Tryd.prog.info? ty).map (·.size) = some cs.size) (h1 : cs.all (·.oneCell') = true)
    (h : ∀ w' C', C'.size = C.size → Blk w' g C' T → Chg w w' [g] → wpList Tryd.prog ops Q rest (a.put op.dst undef) w') : wpList Tryd.prog ops Q (op :: rest) a w :=
  wpList_plain hgd fun _ hK => wp_store_mid ty x y ho g at' cs hx hy (B.there hs) hi h1 (hK _ _ (h _ _ (setL_size _ _ _) (B.setCells at' _) ((Chg.refl w [g]).setCellsIn (by simp) at' _)))
theorem load_gq {w : World} {ops : Array Oper} {rest : List Oper} {op : Oper} {a : Act} {Q : Exit → Act → World → Prop} {b : Nat} {f : Nat → Nat} (hB : Blk w b (yC 32 f) 69) (x : Operand) (hw : Region.wanted op (yielded ops a.tmps) = true) (ho : op.op = .load 69 x) (hx : a.eval x = .pointer (some ⟨b, 0, none⟩))
    (h : wpList Tryd.prog ops Q rest (a.put op.dst (.agg (yC 32 f))) w) : wpList Tryd.prog ops Q (op :: rest) a w :=
  wpList_step fun K hK => by rw [if_pos hw]; exact wp_load_mid 69 x ho b 0 hx (yL 32 f) _ (blk_rng hB) Tryd.underlying69 rfl (by rw [yL_len]; exact randInfo) (hK _ _ h)
theorem builtR2 (y : Int) : Tryd.prog.built 69 [(0, .int .u8 238), (1, .int .u8 y)] = some #[.int .u8 238, .int .u8 y, .int .u8 0, .int .u8 0, .int .u8 0, .int .u8 0, .int .u8 0, .int .u8 0, .int .u8 0, .int .u8 0, .int .u8 0, .int .u8 0, .int .u8 0, .int .u8 0, .int .u8 0, .int .u8 0, .int .u8 0, .int .u8 0, .int .u8 0, .int .u8 0, .int .u8 0, .int .u8 0, .int .u8 0, .int .u8 0, .int .u8 0, .int .u8 0, .int .u8 0, .int .u8 0, .int .u8 0, .int .u8 0, .int .u8 0, .int .u8 0] := by kernel_rfl
theorem builtR3 (y : Int) : ∃ cs, Tryd.prog.built 69 [(0, .int .u8 238), (1, .int .u8 y)] = some cs ∧ cs.size = 32 ∧ cs.all (·.oneCell') = true := ⟨_, builtR2 y, rfl, by simp [Value.oneCell']⟩
/-- The copy. -/
def CO (w wc : World) (n : Nat) (r : Nat → Nat → Nat) (po : Option Addr) (co : Nat) : Prop := (n = 0 ∧ po = none ∧ co = 0) ∨ (0 < n ∧ ∃ og, po = some ⟨og, 0, none⟩ ∧ OwnR wc w.heap.size 69 32 (.slice (some ⟨og, 0, none⟩) n co) n (rn r))
/-- The copy and the tape beside it. -/
def DD (w wr : World) (n : Nat) (r : Nat → Nat → Nat) (po : Option Addr) (tb b : Nat) : Prop := b ≤ wr.heap.size ∧ w.heap.size ≤ tb ∧ ((n = 0 ∧ TS b wr tb n r) ∨ (0 < n ∧ ∃ og gg cap C, po = some ⟨og, 0, none⟩ ∧ w.heap.size ≤ og ∧ og < tb ∧ og < gg ∧ tb < b ∧ gg < b ∧ Blk wr tb #[.slice (some ⟨gg, 0, none⟩) n cap, .bool true] 147 ∧ Rl wr 32 (.slice (some ⟨gg, 0, none⟩) n cap) n (rn r) ∧ Blk wr og C 69 ∧ n * 32 ≤ C.size))
theorem DD.ts {w wr : World} {n : Nat} {r : Nat → Nat → Nat} {po : Option Addr} {tb b : Nat} (h : DD w wr n r po tb b) : TS b wr tb n r := by
  rcases h.2.2 with ⟨_, t⟩ | ⟨_, og, gg, cap, C, _, _, _, _, h1, h2, B, R, _⟩
  · exact t
  · exact ⟨h1, _, _, B, R, fun g o s e => by simp only [Option.some.injEq, Addr.mk.injEq] at e; omega⟩
theorem CO.blk {w wc : World} {n : Nat} {r : Nat → Nat → Nat} {og co : Nat} (O : OwnR wc w.heap.size 69 32 (.slice (some ⟨og, 0, none⟩) n co) n (rn r)) : ∃ C, Blk wc og C 69 ∧ n * 32 ≤ C.size ∧ w.heap.size ≤ og := by
  obtain ⟨⟨hl, h1⟩, hF⟩ := O
  rcases h1 with ⟨e, _⟩ | ⟨g, cap, cur, e, hg, hh, hc, hm, hs, ht⟩
  · cases e
  · simp only [Value.slice.injEq, Option.some.injEq, Addr.mk.injEq] at e
    obtain ⟨⟨rfl, _⟩, _, rfl⟩ := e
    refine ⟨cur, hh, ?_, hg⟩
    rw [hs]
    exact Nat.mul_le_mul_right 32 hc
theorem cell_cg0 {w w' : World} {g x : Nat} {v : Value} (c : Chg w w' []) (hg : g < w.heap.size) (h : w.cell? ⟨g, x, none⟩ = some v) : w'.cell? ⟨g, x, none⟩ = some v := by
  have e := c.block g hg (by simp)
  simp only [World.cell?, e]
  exact h
theorem TS.rand1 {b : Nat} {w : World} {tb n a : Nat} {r : Nat → Nat → Nat} {ra : Nat → Nat} (T : TS b w tb (n - a) (fun j => r (j + a))) (h : a < n) (hra : r a = ra) : Calls Tryd.prog 31 #[.pointer (some ⟨tb, 0, none⟩)] w fun e w' => e = .returned (.tuple #[.agg (yC 32 ra), .int .i64 0]) ∧ TS b w' tb (n - (a + 1)) (fun j => r (j + (a + 1))) ∧ Chg w w' [tb] := by
  have e0 : n - a = n - (a + 1) + 1 := by omega
  rw [e0] at T
  refine T.random.mono ?_
  rintro e w' ⟨h1, h2, h3⟩
  refine ⟨?_, h2.cong (fun j _ => ?_), h3⟩
  · rw [h1, ← hra, Nat.zero_add]
  · show r (j + 1 + a) = r (j + (a + 1))
    congr 1
    omega
theorem eq_rn2 (f : Nat → Nat) (w : World) : (Op.equalIn 10000 69 (.agg (yC 32 f)) (.agg (yC 32 f))).run Tryd.prog w = .ok true w := (eq_rand f f w).trans (by rw [eq32_self])
theorem eq_fe2 (X : Int) (w : World) : (Op.equalIn 10000 86 (.agg (feC X)) (.agg (feC X))).run Tryd.prog w = .ok true w := (eq_fe X X w).trans (by rw [eqf_self])
theorem rows_sc {w : World} {sp : Option Addr} {sc M a : Nat} {r : Nat → Nat → Nat} (h : Rl w 32 (.slice sp M sc) M (scR (fun j => r (j + a)))) : ∀ k, k < M → ∃ sg so, sp = some ⟨sg, so, none⟩ ∧ sg < w.heap.size ∧ w.rangeAt sg (so + k * 32) (feL (tw (r (2 * k + a)) (r (2 * k + 1 + a)))) := fun k hk => by
  obtain ⟨p, c, e, hf⟩ := h.form
  simp only [Value.slice.injEq] at e
  obtain ⟨rfl, _, rfl⟩ := e
  exact hf k hk
theorem TS.end1 {b : Nat} {w : World} {tb a : Nat} {r : Nat → Nat → Nat} (T : TS b w tb (a - a) (fun j => r (j + a))) : Calls Tryd.prog 31 #[.pointer (some ⟨tb, 0, none⟩)] w fun e w' => e = .returned (.tuple #[.agg (yC 32 (fun _ => 0)), .int .i64 122]) ∧ TS b w' tb (a - a) (fun j => r (j + a)) ∧ Chg w w' [tb] := by
  rw [Nat.sub_self] at T ⊢
  exact T.ended
set_option maxHeartbeats 32000000 in
set_option maxRecDepth 100000 in
theorem tapes_walk (v0 v1 : Value) (n : Nat) (r : Nat → Nat → Nat) (A : Nat) (ak : Nat → Int) (w : World) (hG : Gl w) (hR : Rl w 32 v0 n (rn r)) (hrb : ∀ j, j < n → ∀ i, i < 32 → r j i < 256) (hn : n ≤ 4398046511104) (hI : IL w v1 A ak) :
    Calls Tryd.prog 5 #[v0, v1] w fun e w' => e = .returned (.bool true) ∧ Chg w w' [] := by
  obtain ⟨lp, lc, hv0, hrow⟩ := hR.form
  subst hv0
  have HRW : Hid (∀ i, i < n → ∃ g o, lp = some ⟨g, o, none⟩ ∧ g < w.heap.size ∧ w.rangeAt g (o + i * 32) (yL 32 (r i))) := hrow
  have HR : Hid (Rl w 32 (.slice lp n lc) n (rn r)) := hR
  have HRB : Hid ((∀ j, j < n → ∀ i, i < 32 → r j i < 256) ∧ n ≤ 4398046511104) := ⟨hrb, hn⟩
  have HG : Hid (∀ W, Chg w W [] → Gl W) := fun W h => hG.chg h (by simp) (by simp)
  obtain ⟨ip, ic, hv1, hA9⟩ : ∃ p c, v1 = .slice p A c ∧ A ≤ 9223372036854775807 := by
    rcases hI with ⟨rfl, rfl⟩ | ⟨g, o, c, rfl, h1, h2, _⟩
    · exact ⟨_, _, rfl, by omega⟩
    · exact ⟨_, _, rfl, by omega⟩
  subst hv1
  have HIL : Hid (∀ i, i < A → ∃ g o, ip = some ⟨g, o, none⟩ ∧ g < w.heap.size ∧ w.cell? ⟨g, o + i, none⟩ = some (.int .i64 (ak i))) := fun i hi => by
    rcases hI with ⟨rfl, _⟩ | ⟨g, o, c, e, _, _, h3, h4⟩
    · omega
    · simp only [Value.slice.injEq] at e
      exact ⟨g, o, e.1, h3, h4 i hi⟩
  have hgR : Tryd.prog.eqGuardType Tryd.prog.depth 69 = false := by kernel_rfl
  have hgS := feGuard
  clear hG hR hrb hn hI hrow
  go_enter Tryd.func5, Tryd.ntmps5
  go_upto_region 1 with fail
  go_cut [5] (fun t wc => ∃ po co, t = .slice po n co ∧ CO w wc n r po co ∧ Chg w wc [])
  case first =>
    go_wp2_with fail
    refine (CopyRn_s _ n r w HRB.out.2 HR.out).mono ?_
    rintro e w1 ⟨hQ, k1⟩
    rcases hQ with ⟨h0, rfl⟩ | ⟨h0, g, c, rfl, O⟩
    · have HZ : Hid (n = 0) := h0
      clear h0
      go_wp2_with fail
      go_meet
      case rel => exact ⟨none, 0, by rw [HZ.out], Or.inl ⟨HZ.out, rfl, rfl⟩, k1⟩
    · go_wp2_with fail
      go_meet
      case rel => exact ⟨_, _, rfl, Or.inr ⟨h0, g, rfl, O⟩, k1⟩
  case rest =>
    obtain ⟨po, co, rfl, hCO, C1⟩ := hcut
    have HCO : Hid (CO w wc n r po co ∧ Chg w wc []) := ⟨hCO, C1⟩
    obtain ⟨w1, hw1⟩ : ∃ z, z = wc := ⟨wc, rfl⟩
    subst hw1
    clear hCO C1
    go_upto_region 2 with fail
    go_cut [6] (fun t wc => ∃ tb b, t = .pointer (some ⟨tb, 0, none⟩) ∧ DD w wc n r po tb b ∧ Chg w wc [])
    case first =>
      rcases HCO.out.1 with ⟨h0, rfl, rfl⟩ | ⟨h0, og, rfl, O⟩
      · have HZ : Hid (n = 0) := h0
        have HNT := NewTape_nil w1
        rw [← h0] at HNT
        have HNH : Hid (Calls Tryd.prog 30 #[.slice none n 0] w1 fun e w' => ∃ tb, e = .returned (.pointer (some ⟨tb, 0, none⟩)) ∧ w1.heap.size ≤ tb ∧ Blk w' tb #[.slice none n 0, .bool true] 147 ∧ Chg w1 w' []) := by
          show Calls _ _ _ _ _
          have q := NewTape_nil w1
          rw [h0]
          exact q
        clear h0 HNT
        go_wp2_with fail
        refine HNH.out.mono ?_
        rintro e w2 ⟨tb, rfl, htb, BT, k2⟩
        go_wp2_with fail
        go_meet
        case rel => exact ⟨tb, w2.heap.size, rfl, ⟨Nat.le_refl _, Nat.le_trans HCO.out.2.size htb, Or.inl ⟨HZ.out, BT.lt, none, 0, BT, ⟨rn_ok _ _, Or.inl ⟨HZ.out, by rw [HZ.out]⟩⟩, fun g o s e => by cases e⟩⟩, HCO.out.2.trans1 k2⟩
      · obtain ⟨C, BC, hCs, hog⟩ := CO.blk O
        have HO : Hid (Rl w1 32 (.slice (some ⟨og, 0, none⟩) n co) n (rn r) ∧ 0 < n ∧ Blk w1 og C 69 ∧ n * 32 ≤ C.size ∧ w.heap.size ≤ og) := ⟨O.rl, h0, BC, hCs, hog⟩
        clear O h0 BC hCs hog
        go_wp2_with fail
        refine (NewTape_s og 0 n co r w1 HO.out.2.1 HRB.out.2 HO.out.1).mono ?_
        rintro e w2 ⟨tb, gg, cap, rfl, htb, hgg, BT, RT, k2⟩
        have HGG : Hid (gg < w2.heap.size) := by
          rcases RT.2 with ⟨h, _⟩ | ⟨g', o', c', e, _, _, h3, _⟩
          · have := HO.out.2.1; omega
          · simp only [Value.slice.injEq, Option.some.injEq, Addr.mk.injEq] at e; show gg < _; omega
        go_wp2_with fail
        go_meet
        case rel => exact ⟨tb, w2.heap.size, rfl, ⟨Nat.le_refl _, Nat.le_trans HCO.out.2.size htb, Or.inr ⟨HO.out.2.1, og, gg, cap, C, rfl, HO.out.2.2.2.2, by have := HO.out.2.2.1.lt; omega, by have := HO.out.2.2.1.lt; omega, BT.lt, HGG.out, BT, RT, HO.out.2.2.1.chg k2 (by simp), HO.out.2.2.2.1⟩⟩, HCO.out.2.trans1 k2⟩
    case rest =>
      obtain ⟨tb, b, rfl, D, C2⟩ := hcut
      obtain ⟨w2, hw2⟩ : ∃ z, z = wc := ⟨wc, rfl⟩
      subst hw2
      have HTB : Hid (w.heap.size ≤ tb) := D.2.1
      clear HCO
      go_wp2_with fail
      go_loopw [7] (fun t wr => ∃ i : Nat, i ≤ n ∧ t = .int .i64 (i : Int) ∧ DD w wr n r po tb b ∧ Chg w wr []) (fun t _ => ((n : Int) - intOf t).toNat)
      case atStart => exact ⟨0, by omega, rfl, D, C2⟩
      case round =>
        clear D C2
        obtain ⟨i, hi, rfl, D, C⟩ := hrel
        have HN4 : Hid (n ≤ 4398046511104) := HRB.out.2
        by_cases h8 : i < n
        · have hI : (i : Int) < (n : Int) := by omega
          have hI0 : (0 : Int) ≤ (i : Int) := by omega
          have e1 : IntKind.i64.wrap ((i : Int) + 1) = (i : Int) + 1 := by have := HN4.out; rw [IntKind.wrap_i64]; omega
          obtain ⟨y, hy⟩ : ∃ y : Int, (i : Int) % 256 = y := ⟨_, rfl⟩
          have e2 : IntKind.u8.wrap (i : Int) = y := by rw [IntKind.wrap_u8]; exact hy
          have e3 : (i : Int) % 256 = y := hy
          obtain ⟨CY, hCY, hc32, hc1⟩ := builtR3 y
          have HCY : Hid (Tryd.prog.built 69 [(0, .int .u8 238), (1, .int .u8 y)] = some CY ∧ CY.size = 32 ∧ CY.all (·.oneCell') = true) := ⟨hCY, hc32, hc1⟩
          have HSY : Hid ((Tryd.prog.info? 69).map (·.size) = some CY.size) := by show _ = _; rw [hc32]; exact randInfo
          rcases D.2.2 with ⟨h0, _⟩ | ⟨h0, og, gg, cap, C', hpo, q1, q2, q3, q4, q5, BT, RT, BC, hsz⟩
          · omega
          subst hpo
          have HQ : Hid (w.heap.size ≤ og ∧ og < tb ∧ og < gg ∧ tb < b ∧ gg < b ∧ n * 32 ≤ C'.size ∧ b ≤ wr.heap.size ∧ 0 < n ∧ i < n ∧ i + 1 ≤ n) := ⟨q1, q2, q3, q4, q5, hsz, D.1, h0, h8, by omega⟩
          have HST : Hid (i * 32 + CY.size ≤ C'.size) := by show i * 32 + CY.size ≤ C'.size; rw [hc32]; omega
          have HBT : Hid (Blk wr tb #[.slice (some ⟨gg, 0, none⟩) n cap, .bool true] 147 ∧ Rl wr 32 (.slice (some ⟨gg, 0, none⟩) n cap) n (rn r)) := ⟨BT, RT⟩
          clear hy hCY hc32 hc1 D h0 q1 q2 q3 q4 q5 hsz hi h8 BT RT
          go_wp2_with (first
            | (refine store_row BC rfl 69 _ _ rfl (i * 32) CY rfl rfl HST.out HSY.out HCY.out.2.2 ?_; intro w4 C4 hC4 BC4 k4)
            | (refine wpList_build_c rfl 69 _ rfl CY (by go_simp; exact HCY.out.1) ?_))
          have D4 : DD w w4 n r (some ⟨og, 0, none⟩) tb b := ⟨by have := HQ.out; have := k4.size; omega, HTB.out, Or.inr ⟨HQ.out.2.2.2.2.2.2.2.1, og, gg, cap, C4, rfl, HQ.out.1, HQ.out.2.1, HQ.out.2.2.1, HQ.out.2.2.2.1, HQ.out.2.2.2.2.1, HBT.out.1.chg k4 (by have := HQ.out; simp; omega), HBT.out.2.chg k4 (fun g' o' n' c' e hx => by simp only [Value.slice.injEq, Option.some.injEq, Addr.mk.injEq] at e; have := HQ.out; simp at hx; omega), BC4, by rw [hC4]; exact HQ.out.2.2.2.2.2.1⟩⟩
          exact ⟨⟨i + 1, HQ.out.2.2.2.2.2.2.2.2.2, by go_num, D4, C.new k4 HQ.out.1⟩, by have := HQ.out; simp [intOf]; omega⟩
        · have hI : ¬ (i : Int) < (n : Int) := by omega
          have T0 : TS b wr tb (n - 0) (fun j => r (j + 0)) := D.ts
          have HB0 : Hid (b ≤ wr.heap.size) := D.1
          clear hi h8 D
          go_wp2_with fail
          go_loopw [9, 8] (fun t ta wr => ∃ i a : Nat, i ≤ A ∧ a ≤ n ∧ t = .int .i64 (i : Int) ∧ ta = .int .i64 (a : Int) ∧ TS b wr tb (n - a) (fun j => r (j + a)) ∧ b ≤ wr.heap.size ∧ Chg w wr []) (fun t _ _ => ((A : Int) - intOf t).toNat)
          case atStart => exact ⟨0, 0, by omega, by omega, rfl, rfl, T0, HB0.out, C⟩
          case round =>
            clear T0 C
            obtain ⟨i, a, hi, ha, rfl, rfl, T, hbs, C⟩ := hrel
            have HS : Hid (b ≤ wr.heap.size ∧ a ≤ n) := ⟨hbs, ha⟩
            clear HB0 hbs
            by_cases h8 : i < A
            · have hI : (i : Int) < (A : Int) := by omega
              have hI0 : (0 : Int) ≤ (i : Int) := by omega
              have e1 : IntKind.i64.wrap ((i : Int) + 1) = (i : Int) + 1 := by rw [IntKind.wrap_i64]; omega
              have HI : Hid (i < A ∧ i + 1 ≤ A) := ⟨h8, by omega⟩
              obtain ⟨ig, io, hip, hig, hcl⟩ := HIL.out i h8
              have cx := cell_cg0 C hig hcl
              clear h8 hi
              by_cases hz0 : ak i = 0
              · rw [hz0] at cx
                clear hz0 hcl
                by_cases han : a < n
                · have hA1 : (a : Int) < (n : Int) := by omega
                  have hA0 : (0 : Int) ≤ (a : Int) := by omega
                  have hne : ((a : Int) == (n : Int)) = false := by simp; omega
                  have e2 : IntKind.i64.wrap ((a : Int) + 1) = (a : Int) + 1 := by have := HN4.out; rw [IntKind.wrap_i64]; omega
                  obtain ⟨lg, lo, hlp, hlg, hlr⟩ := HRW.out a han
                  obtain ⟨ra, hra⟩ : ∃ z, r a = z := ⟨_, rfl⟩
                  rw [hra] at hlr
                  have HLR : Hid (w.rangeAt lg (lo + a * 32) (yL 32 ra) ∧ lg < w.heap.size) := ⟨hlr, hlg⟩
                  have HC : Hid (Calls Tryd.prog 31 #[.pointer (some ⟨tb, 0, none⟩)] wr fun e w' => e = .returned (.tuple #[.agg (yC 32 ra), .int .i64 0]) ∧ TS b w' tb (n - (a + 1)) (fun j => r (j + (a + 1))) ∧ Chg wr w' [tb]) := TS.rand1 T han hra
                  have HAN : Hid (a + 1 ≤ n) := by show a + 1 ≤ n; omega
                  have HZ : Hid (b ≤ wr.heap.size) := HS.out.1
                  have heq := eq_rn2 ra
                  subst hlp
                  subst hip
                  clear han T hlr hlg hra ha hig HS
                  go_wp2_with fail
                  refine HC.out.mono ?_
                  rintro e w5 ⟨rfl, T5, k5⟩
                  have C5 : Chg w w5 [] := C.new k5 HTB.out
                  have HZ5 : Hid (b ≤ w5.heap.size) := Nat.le_trans HZ.out k5.size
                  clear C k5 cx HC
                  go_upto_region 15 with (first
                    | (refine store_w BR rfl 69 _ _ (yC 32 ra) rfl rfl rfl (by rw [yC_size]; exact randInfo) (by rw [yC_size, yC_size]) (yC_one 32 _) ?_; intro w8 B8 k7)
                    | (with_reducible refine alloc_w rfl 69 rfl (.agg (yC 32 (fun _ => 0))) zeroRand (yC 32 (fun _ => 0)) rfl ?_; intro tq w6 htq BR k6))
                  have HZ8 : Hid (b ≤ w8.heap.size) := by have := HZ5.out; have := k6.size; have := k7.size; show b ≤ w8.heap.size; omega
                  have T8 : TS b w8 tb (n - (a + 1)) (fun j => r (j + (a + 1))) := (T5.chg k6).far k7 (fun z hz => by simp at hz; subst hz; exact Nat.le_trans HZ5.out htq)
                  have C8 : Chg w w8 [] := C5.trans1 (k6.new k7 htq)
                  clear T5 C5 k6 k7 BR htq
                  go_upto_region 18 with fail
                  refine wp_region_held_drew (S := fun w' => Chg w8 w' []) (by kernel_rfl) ((Chg.refl w8 _).drew) (fun hHeld => ?_)
                  refine take_val (v := ?_) 0 (some 63) rfl (by kernel_rfl) (by kernel_rfl) (by kernel_rfl) (fun _ _ _ h => h) rfl rfl (fun w hSw => ?_) hHeld ?_
                  rotate_left
                  · (go_simp; try with_reducible rfl)
                  try simp only [Act.put, List.setIfInBounds_toArray, List.set_cons_zero, List.set_cons_succ]
                  refine wpAnyH_ready (rs := [1]) (by kernel_rfl) (by simp) ?_
                  refine AllReadyH.cons (o := _) rfl (fun K' hK => ?_) ?_
                  ·
                    go_simp
                    refine (num_s 0 _).mono ?_
                    rintro e v1 ⟨rfl, rfl⟩
                    go_wp2_with fail
                    refine hK.out _ _ (hHeld) (fun hHeld => ?_)
                    clear hK K'
                    try simp only [Act.put, List.setIfInBounds_toArray, List.set_cons_zero, List.set_cons_succ]
                    refine take_val (v := ?_) 2 (some 65) rfl (by kernel_rfl) (by kernel_rfl) (by kernel_rfl) (fun _ _ _ h => h) rfl rfl (fun w hSw => ?_) hHeld ?_
                    rotate_left
                    · (go_simp; try with_reducible rfl)
                    try simp only [Act.put, List.setIfInBounds_toArray, List.set_cons_zero, List.set_cons_succ]
                    refine take_val (v := ?_) 3 (some 66) rfl (by kernel_rfl) (by kernel_rfl) (by kernel_rfl) (fun _ _ _ h => h) rfl rfl (fun w hSw => ?_) hHeld ?_
                    rotate_left
                    · (go_simp; try with_reducible rfl)
                    try simp only [Act.put, List.setIfInBounds_toArray, List.set_cons_zero, List.set_cons_succ]
                    refine take_val (v := (.agg (yC 32 ra))) 4 (some 67) rfl (by kernel_rfl) (by kernel_rfl) (by kernel_rfl) (fun _ _ _ h => h) rfl rfl (fun w hSw => ?_) hHeld ?_
                    · exact exec_load_m w 69 _ rfl tq 0 rfl (yL 32 ra) _ (blk_rng (B8.chg hSw (by simp))) Tryd.underlying69 rfl (by rw [yL_len]; exact randInfo)
                    try simp only [Act.put, List.setIfInBounds_toArray, List.set_cons_zero, List.set_cons_succ]
                    refine take_val (v := ?_) 5 (some 68) rfl (by kernel_rfl) (by kernel_rfl) (by kernel_rfl) (fun _ _ _ h => h) rfl rfl (fun w hSw => ?_) hHeld ?_
                    rotate_left
                    · (go_simp; try with_reducible rfl)
                    try simp only [Act.put, List.setIfInBounds_toArray, List.set_cons_zero, List.set_cons_succ]
                    refine take_val (v := ?_) 6 (some 69) rfl (by kernel_rfl) (by kernel_rfl) (by kernel_rfl) (fun _ _ _ h => h) rfl rfl (fun w hSw => ?_) hHeld ?_
                    rotate_left
                    · (go_simp; try with_reducible rfl)
                    try simp only [Act.put, List.setIfInBounds_toArray, List.set_cons_zero, List.set_cons_succ]
                    refine take_val (v := (.pointer (some ⟨lg, lo + a * 32, none⟩))) 7 (some 70) rfl (by kernel_rfl) (by kernel_rfl) (by kernel_rfl) (fun _ _ _ h => h) rfl rfl (fun w hSw => ?_) hHeld ?_
                    · (go_simp; try with_reducible rfl)
                    try simp only [Act.put, List.setIfInBounds_toArray, List.set_cons_zero, List.set_cons_succ]
                    refine take_val (v := (.agg (yC 32 ra))) 8 (some 71) rfl (by kernel_rfl) (by kernel_rfl) (by kernel_rfl) (fun _ _ _ h => h) rfl rfl (fun w hSw => ?_) hHeld ?_
                    · exact exec_load_m w 69 _ rfl lg (lo + a * 32) rfl (yL 32 ra) _ (rangeAt_chg HLR.out.1 HLR.out.2 ((C8).trans1 hSw) (by simp)) Tryd.underlying69 rfl (by rw [yL_len]; exact randInfo)
                    try simp only [Act.put, List.setIfInBounds_toArray, List.set_cons_zero, List.set_cons_succ]
                    refine take_val (v := (.bool false)) 9 (some 72) rfl (by kernel_rfl) (by kernel_rfl) (by kernel_rfl) (fun _ _ _ h => h) rfl rfl (fun w hSw => ?_) hHeld ?_
                    · have hh := heq
                      (go_simp; try with_reducible rfl)
                    try simp only [Act.put, List.setIfInBounds_toArray, List.set_cons_zero, List.set_cons_succ]
                    refine take_val (v := ?_) 10 (some 73) rfl (by kernel_rfl) (by kernel_rfl) (by kernel_rfl) (fun _ _ _ h => h) rfl rfl (fun w hSw => ?_) hHeld ?_
                    rotate_left
                    · (go_simp; try with_reducible rfl)
                    try simp only [Act.put, List.setIfInBounds_toArray, List.set_cons_zero, List.set_cons_succ]
                    refine wpAnyH_done (by kernel_rfl) ?_ _
                    have CZ := hHeld.size
                    have CF := C8.trans1 hHeld
                    have TF := T8.chg hHeld
                    clear hHeld C8 T8 B8
                    go_wp2_with fail
                    exact ⟨⟨i + 1, a + 1, HI.out.2, HAN.out, by go_num, by go_num, TF, by have := HZ8.out; have := CZ; omega, CF⟩, by have := HI.out; simp [intOf]; omega⟩
                  exact AllReadyH.nil
                · have haN : a = n := by have := HS.out; omega
                  subst haN
                  have hne : ((a : Int) == (a : Int)) = true := by simp
                  have HC : Hid (Calls Tryd.prog 31 #[.pointer (some ⟨tb, 0, none⟩)] wr fun e w' => e = .returned (.tuple #[.agg (yC 32 (fun _ => 0)), .int .i64 122]) ∧ TS b w' tb (a - a) (fun j => r (j + a)) ∧ Chg wr w' [tb]) := TS.end1 T
                  obtain ⟨ra, hra⟩ : ∃ z, (fun _ : Nat => 0) = z := ⟨_, rfl⟩
                  have HZR : Hid ((Tryd.prog.info? 69).bind (·.zero) = some (.agg (yC 32 ra)) ∧ Tryd.prog.built 69 [] = some (yC 32 ra)) := by rw [← hra]; exact ⟨zeroRand, builtRand0⟩
                  have hZ32 : yC 32 ra = #[.int .u8 0, .int .u8 0, .int .u8 0, .int .u8 0, .int .u8 0, .int .u8 0, .int .u8 0, .int .u8 0, .int .u8 0, .int .u8 0, .int .u8 0, .int .u8 0, .int .u8 0, .int .u8 0, .int .u8 0, .int .u8 0, .int .u8 0, .int .u8 0, .int .u8 0, .int .u8 0, .int .u8 0, .int .u8 0, .int .u8 0, .int .u8 0, .int .u8 0, .int .u8 0, .int .u8 0, .int .u8 0, .int .u8 0, .int .u8 0, .int .u8 0, .int .u8 0] := by rw [← hra]; rfl
                  have heq0 : ∀ w, (Op.equalIn 10000 69 (.agg (yC 32 ra)) (.agg #[.int .u8 0, .int .u8 0, .int .u8 0, .int .u8 0, .int .u8 0, .int .u8 0, .int .u8 0, .int .u8 0, .int .u8 0, .int .u8 0, .int .u8 0, .int .u8 0, .int .u8 0, .int .u8 0, .int .u8 0, .int .u8 0, .int .u8 0, .int .u8 0, .int .u8 0, .int .u8 0, .int .u8 0, .int .u8 0, .int .u8 0, .int .u8 0, .int .u8 0, .int .u8 0, .int .u8 0, .int .u8 0, .int .u8 0, .int .u8 0, .int .u8 0, .int .u8 0])).run Tryd.prog w = .ok true w := fun w => by rw [← hZ32]; exact eq_rn2 ra w
                  clear hZ32
                  rw [hra] at HC
                  have HZ : Hid (b ≤ wr.heap.size) := HS.out.1
                  have heq := eq_rn2 ra
                  subst hip
                  clear han T hra ha hig HS
                  go_wp2_with fail
                  refine HC.out.mono ?_
                  rintro e w5 ⟨rfl, T5, k5⟩
                  have C5 : Chg w w5 [] := C.new k5 HTB.out
                  have HZ5 : Hid (b ≤ w5.heap.size) := Nat.le_trans HZ.out k5.size
                  clear C k5 cx HC
                  go_upto_region 15 with (first
                    | (refine store_w BR rfl 69 _ _ (yC 32 ra) rfl rfl rfl (by rw [yC_size]; exact randInfo) rfl (yC_one 32 _) ?_; intro w8 B8 k7)
                    | (with_reducible refine alloc_w rfl 69 rfl (.agg (yC 32 ra)) HZR.out.1 (yC 32 ra) rfl ?_; intro tq w6 htq BR k6))
                  have HZ8 : Hid (b ≤ w8.heap.size) := by have := HZ5.out; have := k6.size; have := k7.size; show b ≤ w8.heap.size; omega
                  have T8 : TS b w8 tb (a - a) (fun j => r (j + a)) := (T5.chg k6).far k7 (fun z hz => by simp at hz; subst hz; exact Nat.le_trans HZ5.out htq)
                  have C8 : Chg w w8 [] := C5.trans1 (k6.new k7 htq)
                  clear T5 C5 k6 k7 BR htq
                  go_wp2_with fail
                  refine (num_s 122 w8).mono ?_
                  rintro e w9 ⟨rfl, rfl⟩
                  go_wp2_with (first
                    | (refine load_gq B8 (.tmp 10) (by rfl) rfl rfl ?_)
                    | (refine gl_build (by rfl) 69 #[] rfl (yC 32 ra) HZR.out.2 ?_))
                  exact ⟨⟨i + 1, a, HI.out.2, Nat.le_refl _, by go_num, rfl, T8, HZ8.out, C8⟩, by have := HI.out; simp [intOf]; omega⟩
              · have hq0 : (ak i == 0) = false := by simpa using hz0
                obtain ⟨z, hz⟩ : ∃ z, ak i = z := ⟨_, rfl⟩
                rw [hz] at cx hq0 hz0 hcl
                clear hz
                by_cases hzl : z < 0 ∨ 65536 < z
                · have HZZ : Hid (z < 0 ∨ 65536 < z) := hzl
                  subst hip
                  clear hzl hz0
                  go_upto_region 21 with fail
                  go_wp2_with fail
                  refine (Scalars_no tb z HZZ.out wr).mono ?_
                  rintro e w5 ⟨rfl, rfl⟩
                  rcases HZZ.out with hzl | hzl
                  · go_wp2_with fail
                    refine (num_s 1 w5).mono ?_
                    rintro e w6 ⟨rfl, rfl⟩
                    go_wp2_with fail
                    exact ⟨⟨i + 1, a, HI.out.2, HS.out.2, by go_num, rfl, T, HS.out.1, C⟩, by have := HI.out; simp [intOf]; omega⟩
                  · have hz9 : ¬ z < 0 := by omega
                    go_wp2_with fail
                    refine (num_s 1 w5).mono ?_
                    rintro e w6 ⟨rfl, rfl⟩
                    go_wp2_with fail
                    exact ⟨⟨i + 1, a, HI.out.2, HS.out.2, by go_num, rfl, T, HS.out.1, C⟩, by have := HI.out; simp [intOf]; omega⟩
                · obtain ⟨M, rfl⟩ : ∃ M : Nat, z = (M : Int) := ⟨z.toNat, by omega⟩
                  have hz9 : ¬ (M : Int) < 0 := by omega
                  have hz8 : ¬ (65536 : Int) < (M : Int) := by omega
                  obtain ⟨m, hm⟩ : ∃ m, n - a = m := ⟨_, rfl⟩
                  rw [hm] at T
                  have HM : Hid (M ≤ 65536 ∧ n = a + m ∧ n ≤ 4398046511104) := ⟨by omega, by have := HS.out; omega, HN4.out⟩
                  have HTT : Hid (TS b wr tb m (fun j => r (j + a))) := T
                  have HRM : Hid (∀ j, j < m → ∀ i, i < 32 → r (j + a) i < 256) := fun j hj => HRB.out.1 (j + a) (by have := HM.out; omega)
                  have eS : IntKind.i64.wrap ((n : Int) - (a : Int)) = (m : Int) := by have := HM.out; rw [IntKind.wrap_i64]; omega
                  obtain ⟨G, hGq⟩ : ∃ G : Nat, m / 2 = G := ⟨_, rfl⟩
                  have eQ : (m : Int).tdiv 2 = (G : Int) := by rw [Int.tdiv_eq_ediv_of_nonneg (by omega)]; omega
                  have eQ2 : IntKind.i64.wrap (G : Int) = (G : Int) := by have := HM.out; rw [IntKind.wrap_i64]; omega
                  have HGQ : Hid (m / 2 = G) := hGq
                  have HCL : Hid (ig < w.heap.size) := hig
                  have HCX : Hid (w.cell? ⟨ig, io + i, none⟩ = some (.int .i64 (M : Int))) := hcl
                  subst hip
                  clear hzl hz0 hm T hGq hig hcl ha
                  go_upto_region 21 with fail
                  go_wp2_with fail
                  refine (Scalars_s HTT.out HS.out.1 HRM.out M HM.out.1).mono ?_
                  intro e w7 hQ
                  have C7 : Chg w w7 [] := by
                    rcases hQ with ⟨_, v, _, _, _, k7⟩ | ⟨_, v, _, _, _, k7⟩
                    · exact C.new k7 HTB.out
                    · exact C.new k7 HTB.out
                  have HZ7 : Hid (b ≤ w7.heap.size) := by
                    rcases hQ with ⟨_, v, _, _, _, k7⟩ | ⟨_, v, _, _, _, k7⟩
                    · exact Nat.le_trans HS.out.1 k7.size
                    · exact Nat.le_trans HS.out.1 k7.size
                  have cx7 := cell_cg0 C7 HCL.out HCX.out
                  rcases hQ with ⟨hm2, v, rfl, OV, T7, k7⟩ | ⟨hm2, v, rfl, OV, T7, k7⟩
                  · obtain ⟨sp, sc, hsv⟩ := OV.lenR
                    subst hsv
                    have hGM : ¬ G < M := by have := HGQ.out; omega
                    have hGMd : decide (G < M) = false := by simpa using hGM
                    obtain ⟨M2, hM2⟩ : ∃ x : Nat, 2 * M = x := ⟨_, rfl⟩
                    obtain ⟨A2, hA2⟩ : ∃ x : Nat, a + M2 = x := ⟨_, rfl⟩
                    have e5 : IntKind.i64.wrap (2 * (M : Int)) = (M2 : Int) := by have := HM.out; rw [IntKind.wrap_i64]; omega
                    have e6 : IntKind.i64.wrap ((a : Int) + (M2 : Int)) = (A2 : Int) := by have := HM.out; rw [IntKind.wrap_i64]; omega
                    have HFIN : Hid (TS b w7 tb (n - A2) (fun j => r (j + A2)) ∧ A2 ≤ n) := by
                      have e : n - A2 = m - 2 * M := by have := HM.out; omega
                      refine ⟨?_, by have := HM.out; omega⟩
                      rw [e]
                      exact T7.cong (fun j _ => by show r (j + 2 * M + a) = r (j + A2); congr 1; omega)
                    have HF2 : Hid (2 * M ≤ m) := hm2
                    have hMM : ((M : Int) == (M : Int)) = true := by simp
                    have HRV := OV.rl
                    have HRW2 : Hid (∀ k, k < M → ∃ sg so, sp = some ⟨sg, so, none⟩ ∧ sg < w7.heap.size ∧ w7.rangeAt sg (so + k * 32) (feL (tw (r (2 * k + a)) (r (2 * k + 1 + a))))) := rows_sc HRV
                    clear T7 OV HRV k7 hm2 hM2 hA2 C cx
                    go_wp2_with fail
                    refine (num_s 0 w7).mono ?_
                    rintro e w8 ⟨rfl, rfl⟩
                    go_wp2_with fail
                    refine (num_s 0 w8).mono ?_
                    rintro e w9 ⟨rfl, rfl⟩
                    go_wp2_with fail
                    go_loopw [16] (fun t wr => ∃ k : Nat, k ≤ M ∧ t = .int .i64 (k : Int) ∧ Chg w9 wr []) (fun t _ => ((M : Int) - intOf t).toNat)
                    case atStart => exact ⟨0, by omega, rfl, Chg.refl _ _⟩
                    case round =>
                      obtain ⟨k, hk, rfl, CR⟩ := hrel
                      have CW : Chg w wr [] := C7.trans1 CR
                      by_cases hkG : k < M
                      · have hK : (k : Int) < (M : Int) := by omega
                        have hK0 : (0 : Int) ≤ (k : Int) := by omega
                        have eK : IntKind.i64.wrap ((k : Int) + 1) = (k : Int) + 1 := by have := HM.out; have := HF2.out; rw [IntKind.wrap_i64]; omega
                        obtain ⟨k2, hk2⟩ : ∃ x : Nat, 2 * k = x := ⟨_, rfl⟩
                        obtain ⟨q1, hq1⟩ : ∃ x : Nat, a + k2 = x := ⟨_, rfl⟩
                        obtain ⟨q2, hq2⟩ : ∃ x : Nat, q1 + 1 = x := ⟨_, rfl⟩
                        have HE : Hid (IntKind.i64.wrap (2 * (k : Int)) = (k2 : Int) ∧ IntKind.i64.wrap ((a : Int) + (k2 : Int)) = (q1 : Int) ∧ IntKind.i64.wrap ((q1 : Int) + 1) = (q2 : Int)) := by
                          have := HM.out
                          have := HF2.out
                          refine ⟨?_, ?_, ?_⟩ <;> (rw [IntKind.wrap_i64]; omega)
                        have hQ1 : (q1 : Int) < (n : Int) := by have := HM.out; have := HF2.out; omega
                        have hQ2 : (q2 : Int) < (n : Int) := by have := HM.out; have := HF2.out; omega
                        have hQ3 : (0 : Int) ≤ (q1 : Int) := by omega
                        have hQ4 : (0 : Int) ≤ (q2 : Int) := by omega
                        obtain ⟨sg, so, hsp, hsg, hsr⟩ := HRW2.out k hkG
                        obtain ⟨lg, lo, hlp, hlg, hla⟩ := HRW.out q1 (by omega)
                        obtain ⟨lg', lo', hlp', hlg', hlb⟩ := HRW.out q2 (by omega)
                        rw [hlp] at hlp'
                        simp only [Option.some.injEq, Addr.mk.injEq, and_true] at hlp'
                        obtain ⟨rfl, rfl⟩ := hlp'
                        have hf1 : 2 * k + a = q1 := by omega
                        have hf2 : 2 * k + 1 + a = q2 := by omega
                        rw [hf1, hf2] at hsr
                        have ha1 := HRB.out.1 q1 (by omega)
                        have ha2 := HRB.out.1 q2 (by omega)
                        obtain ⟨fa, hfa⟩ : ∃ z, r q1 = z := ⟨_, rfl⟩
                        obtain ⟨fb, hfb⟩ : ∃ z, r q2 = z := ⟨_, rfl⟩
                        rw [hfa] at hla ha1 hsr
                        rw [hfb] at hlb ha2 hsr
                        have htw := Two_r fa fb ha1 ha2
                        obtain ⟨X, hX⟩ : ∃ z, tw fa fb = z := ⟨_, rfl⟩
                        rw [hX] at hsr htw
                        have HTW : Hid (∀ W, Calls Tryd.prog 33 #[.agg (yC 32 fa), .agg (yC 32 fb)] W fun e w' => e = .returned (.agg (feC X)) ∧ Chg W w' []) := htw
                        have HLK : Hid (w9.rangeAt sg (so + k * 32) (feL X) ∧ sg < w9.heap.size) := ⟨hsr, hsg⟩
                        have HLA : Hid (w.rangeAt lg (lo + q1 * 32) (yL 32 fa)) := hla
                        have HLB : Hid (w.rangeAt lg (lo + q2 * 32) (yL 32 fb)) := hlb
                        have HLG : Hid (lg < w.heap.size) := hlg
                        have HK : Hid (k < M ∧ k + 1 ≤ M) := ⟨hkG, hkG⟩
                        have heqk := eq_fe2 X
                        subst hsp
                        subst hlp
                        clear hsr hsg hla hlb hlg hlg' htw ha1 ha2 hfa hfb hX hf1 hf2 hk2 hq1 hq2 hkG hk
                        go_upto_region 34 with fail
                        refine wp_region_held_drew (S := fun w' => Chg wr w' []) (by kernel_rfl) ((Chg.refl wr _).drew) (fun hHeld => ?_)
                        refine take_val (v := ?_) 0 (some 148) rfl (by kernel_rfl) (by kernel_rfl) (by kernel_rfl) (fun _ _ _ h => h) rfl rfl (fun w hSw => ?_) hHeld ?_
                        rotate_left
                        · (go_simp; try with_reducible rfl)
                        try simp only [Act.put, List.setIfInBounds_toArray, List.set_cons_zero, List.set_cons_succ]
                        refine take_val (v := ?_) 1 (some 149) rfl (by kernel_rfl) (by kernel_rfl) (by kernel_rfl) (fun _ _ _ h => h) rfl rfl (fun w hSw => ?_) hHeld ?_
                        rotate_left
                        · (go_simp; try with_reducible rfl)
                        try simp only [Act.put, List.setIfInBounds_toArray, List.set_cons_zero, List.set_cons_succ]
                        refine take_val (v := (.pointer (some ⟨sg, so + k * 32, none⟩))) 2 (some 150) rfl (by kernel_rfl) (by kernel_rfl) (by kernel_rfl) (fun _ _ _ h => h) rfl rfl (fun w hSw => ?_) hHeld ?_
                        · (go_simp; try with_reducible rfl)
                        try simp only [Act.put, List.setIfInBounds_toArray, List.set_cons_zero, List.set_cons_succ]
                        refine take_val (v := (.agg (feC X))) 3 (some 151) rfl (by kernel_rfl) (by kernel_rfl) (by kernel_rfl) (fun _ _ _ h => h) rfl rfl (fun w hSw => ?_) hHeld ?_
                        · exact exec_load_m w 86 _ rfl sg (so + k * 32) rfl (feL X) _ (rangeAt_chg HLK.out.1 HLK.out.2 (CR.trans1 hSw) (by simp)) Tryd.underlying86 rfl feInfo
                        try simp only [Act.put, List.setIfInBounds_toArray, List.set_cons_zero, List.set_cons_succ]
                        refine take_val (v := ?_) 4 (some 152) rfl (by kernel_rfl) (by kernel_rfl) (by kernel_rfl) (fun _ _ _ h => h) rfl rfl (fun w hSw => ?_) hHeld ?_
                        rotate_left
                        · (go_simp; try with_reducible rfl)
                        try simp only [Act.put, List.setIfInBounds_toArray, List.set_cons_zero, List.set_cons_succ]
                        refine take_val (v := ?_) 5 (some 153) rfl (by kernel_rfl) (by kernel_rfl) (by kernel_rfl) (fun _ _ _ h => h) rfl rfl (fun w hSw => ?_) hHeld ?_
                        rotate_left
                        · (go_simp; try with_reducible rfl)
                        try simp only [Act.put, List.setIfInBounds_toArray, List.set_cons_zero, List.set_cons_succ]
                        refine take_val (v := ?_) 6 (some 154) rfl (by kernel_rfl) (by kernel_rfl) (by kernel_rfl) (fun _ _ _ h => h) rfl rfl (fun w hSw => ?_) hHeld ?_
                        rotate_left
                        · (go_simp; try with_reducible rfl)
                        try simp only [Act.put, List.setIfInBounds_toArray, List.set_cons_zero, List.set_cons_succ]
                        refine take_val (v := (.int .i64 (k2 : Int))) 7 (some 155) rfl (by kernel_rfl) (by kernel_rfl) (by kernel_rfl) (fun _ _ _ h => h) rfl rfl (fun w hSw => ?_) hHeld ?_
                        · have ee := HE.out.1
                          (go_simp; try with_reducible rfl)
                        try simp only [Act.put, List.setIfInBounds_toArray, List.set_cons_zero, List.set_cons_succ]
                        refine take_val (v := (.int .i64 (q1 : Int))) 8 (some 156) rfl (by kernel_rfl) (by kernel_rfl) (by kernel_rfl) (fun _ _ _ h => h) rfl rfl (fun w hSw => ?_) hHeld ?_
                        · have ee := HE.out.2.1
                          (go_simp; try with_reducible rfl)
                        try simp only [Act.put, List.setIfInBounds_toArray, List.set_cons_zero, List.set_cons_succ]
                        refine take_val (v := (.pointer (some ⟨lg, lo + q1 * 32, none⟩))) 9 (some 157) rfl (by kernel_rfl) (by kernel_rfl) (by kernel_rfl) (fun _ _ _ h => h) rfl rfl (fun w hSw => ?_) hHeld ?_
                        · (go_simp; try with_reducible rfl)
                        try simp only [Act.put, List.setIfInBounds_toArray, List.set_cons_zero, List.set_cons_succ]
                        refine take_val (v := (.agg (yC 32 fa))) 10 (some 158) rfl (by kernel_rfl) (by kernel_rfl) (by kernel_rfl) (fun _ _ _ h => h) rfl rfl (fun w hSw => ?_) hHeld ?_
                        · exact exec_load_m w 69 _ rfl lg (lo + q1 * 32) rfl (yL 32 fa) _ (rangeAt_chg HLA.out HLG.out (CW.trans1 hSw) (by simp)) Tryd.underlying69 rfl (by rw [yL_len]; exact randInfo)
                        try simp only [Act.put, List.setIfInBounds_toArray, List.set_cons_zero, List.set_cons_succ]
                        refine take_val (v := ?_) 11 (some 159) rfl (by kernel_rfl) (by kernel_rfl) (by kernel_rfl) (fun _ _ _ h => h) rfl rfl (fun w hSw => ?_) hHeld ?_
                        rotate_left
                        · (go_simp; try with_reducible rfl)
                        try simp only [Act.put, List.setIfInBounds_toArray, List.set_cons_zero, List.set_cons_succ]
                        refine take_val (v := ?_) 12 (some 160) rfl (by kernel_rfl) (by kernel_rfl) (by kernel_rfl) (fun _ _ _ h => h) rfl rfl (fun w hSw => ?_) hHeld ?_
                        rotate_left
                        · (go_simp; try with_reducible rfl)
                        try simp only [Act.put, List.setIfInBounds_toArray, List.set_cons_zero, List.set_cons_succ]
                        refine take_val (v := ?_) 13 (some 161) rfl (by kernel_rfl) (by kernel_rfl) (by kernel_rfl) (fun _ _ _ h => h) rfl rfl (fun w hSw => ?_) hHeld ?_
                        rotate_left
                        · (go_simp; try with_reducible rfl)
                        try simp only [Act.put, List.setIfInBounds_toArray, List.set_cons_zero, List.set_cons_succ]
                        refine take_val (v := (.int .i64 (k2 : Int))) 14 (some 162) rfl (by kernel_rfl) (by kernel_rfl) (by kernel_rfl) (fun _ _ _ h => h) rfl rfl (fun w hSw => ?_) hHeld ?_
                        · have ee := HE.out.1
                          (go_simp; try with_reducible rfl)
                        try simp only [Act.put, List.setIfInBounds_toArray, List.set_cons_zero, List.set_cons_succ]
                        refine take_val (v := (.int .i64 (q1 : Int))) 15 (some 163) rfl (by kernel_rfl) (by kernel_rfl) (by kernel_rfl) (fun _ _ _ h => h) rfl rfl (fun w hSw => ?_) hHeld ?_
                        · have ee := HE.out.2.1
                          (go_simp; try with_reducible rfl)
                        try simp only [Act.put, List.setIfInBounds_toArray, List.set_cons_zero, List.set_cons_succ]
                        refine take_val (v := (.int .i64 (q2 : Int))) 16 (some 164) rfl (by kernel_rfl) (by kernel_rfl) (by kernel_rfl) (fun _ _ _ h => h) rfl rfl (fun w hSw => ?_) hHeld ?_
                        · have ee := HE.out.2.2
                          (go_simp; try with_reducible rfl)
                        try simp only [Act.put, List.setIfInBounds_toArray, List.set_cons_zero, List.set_cons_succ]
                        refine take_val (v := (.pointer (some ⟨lg, lo + q2 * 32, none⟩))) 17 (some 165) rfl (by kernel_rfl) (by kernel_rfl) (by kernel_rfl) (fun _ _ _ h => h) rfl rfl (fun w hSw => ?_) hHeld ?_
                        · (go_simp; try with_reducible rfl)
                        try simp only [Act.put, List.setIfInBounds_toArray, List.set_cons_zero, List.set_cons_succ]
                        refine take_val (v := (.agg (yC 32 fb))) 18 (some 166) rfl (by kernel_rfl) (by kernel_rfl) (by kernel_rfl) (fun _ _ _ h => h) rfl rfl (fun w hSw => ?_) hHeld ?_
                        · exact exec_load_m w 69 _ rfl lg (lo + q2 * 32) rfl (yL 32 fb) _ (rangeAt_chg HLB.out HLG.out (CW.trans1 hSw) (by simp)) Tryd.underlying69 rfl (by rw [yL_len]; exact randInfo)
                        try simp only [Act.put, List.setIfInBounds_toArray, List.set_cons_zero, List.set_cons_succ]
                        refine wpAnyH_ready (rs := [19]) (by kernel_rfl) (by simp) ?_
                        refine AllReadyH.cons (o := _) rfl (fun K' hK => ?_) ?_
                        ·
                          go_simp
                          refine (HTW.out _).mono ?_
                          rintro e v1 ⟨rfl, k1⟩
                          go_wp2_with fail
                          refine hK.out _ _ (hHeld.trans1 k1) (fun hHeld => ?_)
                          clear hK K'
                          try simp only [Act.put, List.setIfInBounds_toArray, List.set_cons_zero, List.set_cons_succ]
                          clear k1
                          refine take_val (v := (.bool false)) 20 (some 168) rfl (by kernel_rfl) (by kernel_rfl) (by kernel_rfl) (fun _ _ _ h => h) rfl rfl (fun w hSw => ?_) hHeld ?_
                          · have hh := heqk
                            (go_simp; try with_reducible rfl)
                          try simp only [Act.put, List.setIfInBounds_toArray, List.set_cons_zero, List.set_cons_succ]
                          refine wpAnyH_done (by kernel_rfl) ?_ _
                          have CF := CR.trans1 hHeld
                          clear hHeld
                          go_wp2_with fail
                          exact ⟨⟨k + 1, HK.out.2, by go_num, CF⟩, by have := HK.out; simp [intOf]; omega⟩
                        exact AllReadyH.nil
                      · have hK : ¬ (k : Int) < (M : Int) := by omega
                        have HZk : Hid (b ≤ wr.heap.size) := Nat.le_trans HZ7.out CR.size
                        clear hk hkG
                        go_wp2_with fail
                        exact ⟨⟨i + 1, _, HI.out.2, HFIN.out.2, by go_num, rfl, HFIN.out.1.chg CR, HZk.out, CW⟩, by have := HI.out; simp [intOf]; omega⟩
                  · obtain ⟨sp, sc, hsv⟩ := OV.lenR
                    subst hsv
                    rw [HGQ.out] at OV
                    have hGM : G < M := by have := HGQ.out; omega
                    have hGMd : decide (G < M) = true := by simpa using hGM
                    obtain ⟨M2, hM2⟩ : ∃ x : Nat, 2 * G = x := ⟨_, rfl⟩
                    obtain ⟨A2, hA2⟩ : ∃ x : Nat, a + M2 = x := ⟨_, rfl⟩
                    have e5 : IntKind.i64.wrap (2 * (G : Int)) = (M2 : Int) := by have := HM.out; have := HGQ.out; rw [IntKind.wrap_i64]; omega
                    have e6 : IntKind.i64.wrap ((a : Int) + (M2 : Int)) = (A2 : Int) := by have := HM.out; have := HGQ.out; rw [IntKind.wrap_i64]; omega
                    have HFIN : Hid (TS b w7 tb (n - n) (fun j => r (j + n)) ∧ n ≤ n) := ⟨by rw [Nat.sub_self]; exact T7 _, Nat.le_refl _⟩
                    have HF2 : Hid (2 * G ≤ m) := by have := HGQ.out; show 2 * G ≤ m; omega
                    have hMM : ((G : Int) == (G : Int)) = true := by simp
                    have HRV := OV.rl
                    have HRW2 : Hid (∀ k, k < G → ∃ sg so, sp = some ⟨sg, so, none⟩ ∧ sg < w7.heap.size ∧ w7.rangeAt sg (so + k * 32) (feL (tw (r (2 * k + a)) (r (2 * k + 1 + a))))) := rows_sc HRV
                    have hGL : (m / 2 : Nat) = G := HGQ.out
                    rw [hGL]
                    clear T7 OV HRV k7 hm2 hM2 hA2 C cx hGL
                    go_wp2_with fail
                    refine (num_s 122 w7).mono ?_
                    rintro e w8 ⟨rfl, rfl⟩
                    go_wp2_with fail
                    go_loopw [16] (fun t wr => ∃ k : Nat, k ≤ G ∧ t = .int .i64 (k : Int) ∧ Chg w8 wr []) (fun t _ => ((G : Int) - intOf t).toNat)
                    case atStart => exact ⟨0, by omega, rfl, Chg.refl _ _⟩
                    case round =>
                      obtain ⟨k, hk, rfl, CR⟩ := hrel
                      have CW : Chg w wr [] := C7.trans1 CR
                      by_cases hkG : k < G
                      · have hK : (k : Int) < (G : Int) := by omega
                        have hK0 : (0 : Int) ≤ (k : Int) := by omega
                        have eK : IntKind.i64.wrap ((k : Int) + 1) = (k : Int) + 1 := by have := HM.out; have := HF2.out; rw [IntKind.wrap_i64]; omega
                        obtain ⟨k2, hk2⟩ : ∃ x : Nat, 2 * k = x := ⟨_, rfl⟩
                        obtain ⟨q1, hq1⟩ : ∃ x : Nat, a + k2 = x := ⟨_, rfl⟩
                        obtain ⟨q2, hq2⟩ : ∃ x : Nat, q1 + 1 = x := ⟨_, rfl⟩
                        have HE : Hid (IntKind.i64.wrap (2 * (k : Int)) = (k2 : Int) ∧ IntKind.i64.wrap ((a : Int) + (k2 : Int)) = (q1 : Int) ∧ IntKind.i64.wrap ((q1 : Int) + 1) = (q2 : Int)) := by
                          have := HM.out
                          have := HF2.out
                          refine ⟨?_, ?_, ?_⟩ <;> (rw [IntKind.wrap_i64]; omega)
                        have hQ1 : (q1 : Int) < (n : Int) := by have := HM.out; have := HF2.out; omega
                        have hQ2 : (q2 : Int) < (n : Int) := by have := HM.out; have := HF2.out; omega
                        have hQ3 : (0 : Int) ≤ (q1 : Int) := by omega
                        have hQ4 : (0 : Int) ≤ (q2 : Int) := by omega
                        obtain ⟨sg, so, hsp, hsg, hsr⟩ := HRW2.out k hkG
                        obtain ⟨lg, lo, hlp, hlg, hla⟩ := HRW.out q1 (by omega)
                        obtain ⟨lg', lo', hlp', hlg', hlb⟩ := HRW.out q2 (by omega)
                        rw [hlp] at hlp'
                        simp only [Option.some.injEq, Addr.mk.injEq, and_true] at hlp'
                        obtain ⟨rfl, rfl⟩ := hlp'
                        have hf1 : 2 * k + a = q1 := by omega
                        have hf2 : 2 * k + 1 + a = q2 := by omega
                        rw [hf1, hf2] at hsr
                        have ha1 := HRB.out.1 q1 (by omega)
                        have ha2 := HRB.out.1 q2 (by omega)
                        obtain ⟨fa, hfa⟩ : ∃ z, r q1 = z := ⟨_, rfl⟩
                        obtain ⟨fb, hfb⟩ : ∃ z, r q2 = z := ⟨_, rfl⟩
                        rw [hfa] at hla ha1 hsr
                        rw [hfb] at hlb ha2 hsr
                        have htw := Two_r fa fb ha1 ha2
                        obtain ⟨X, hX⟩ : ∃ z, tw fa fb = z := ⟨_, rfl⟩
                        rw [hX] at hsr htw
                        have HTW : Hid (∀ W, Calls Tryd.prog 33 #[.agg (yC 32 fa), .agg (yC 32 fb)] W fun e w' => e = .returned (.agg (feC X)) ∧ Chg W w' []) := htw
                        have HLK : Hid (w8.rangeAt sg (so + k * 32) (feL X) ∧ sg < w8.heap.size) := ⟨hsr, hsg⟩
                        have HLA : Hid (w.rangeAt lg (lo + q1 * 32) (yL 32 fa)) := hla
                        have HLB : Hid (w.rangeAt lg (lo + q2 * 32) (yL 32 fb)) := hlb
                        have HLG : Hid (lg < w.heap.size) := hlg
                        have HK : Hid (k < G ∧ k + 1 ≤ G) := ⟨hkG, hkG⟩
                        have heqk := eq_fe2 X
                        subst hsp
                        subst hlp
                        clear hsr hsg hla hlb hlg hlg' htw ha1 ha2 hfa hfb hX hf1 hf2 hk2 hq1 hq2 hkG hk
                        go_upto_region 34 with fail
                        refine wp_region_held_drew (S := fun w' => Chg wr w' []) (by kernel_rfl) ((Chg.refl wr _).drew) (fun hHeld => ?_)
                        refine take_val (v := ?_) 0 (some 148) rfl (by kernel_rfl) (by kernel_rfl) (by kernel_rfl) (fun _ _ _ h => h) rfl rfl (fun w hSw => ?_) hHeld ?_
                        rotate_left
                        · (go_simp; try with_reducible rfl)
                        try simp only [Act.put, List.setIfInBounds_toArray, List.set_cons_zero, List.set_cons_succ]
                        refine take_val (v := ?_) 1 (some 149) rfl (by kernel_rfl) (by kernel_rfl) (by kernel_rfl) (fun _ _ _ h => h) rfl rfl (fun w hSw => ?_) hHeld ?_
                        rotate_left
                        · (go_simp; try with_reducible rfl)
                        try simp only [Act.put, List.setIfInBounds_toArray, List.set_cons_zero, List.set_cons_succ]
                        refine take_val (v := (.pointer (some ⟨sg, so + k * 32, none⟩))) 2 (some 150) rfl (by kernel_rfl) (by kernel_rfl) (by kernel_rfl) (fun _ _ _ h => h) rfl rfl (fun w hSw => ?_) hHeld ?_
                        · (go_simp; try with_reducible rfl)
                        try simp only [Act.put, List.setIfInBounds_toArray, List.set_cons_zero, List.set_cons_succ]
                        refine take_val (v := (.agg (feC X))) 3 (some 151) rfl (by kernel_rfl) (by kernel_rfl) (by kernel_rfl) (fun _ _ _ h => h) rfl rfl (fun w hSw => ?_) hHeld ?_
                        · exact exec_load_m w 86 _ rfl sg (so + k * 32) rfl (feL X) _ (rangeAt_chg HLK.out.1 HLK.out.2 (CR.trans1 hSw) (by simp)) Tryd.underlying86 rfl feInfo
                        try simp only [Act.put, List.setIfInBounds_toArray, List.set_cons_zero, List.set_cons_succ]
                        refine take_val (v := ?_) 4 (some 152) rfl (by kernel_rfl) (by kernel_rfl) (by kernel_rfl) (fun _ _ _ h => h) rfl rfl (fun w hSw => ?_) hHeld ?_
                        rotate_left
                        · (go_simp; try with_reducible rfl)
                        try simp only [Act.put, List.setIfInBounds_toArray, List.set_cons_zero, List.set_cons_succ]
                        refine take_val (v := ?_) 5 (some 153) rfl (by kernel_rfl) (by kernel_rfl) (by kernel_rfl) (fun _ _ _ h => h) rfl rfl (fun w hSw => ?_) hHeld ?_
                        rotate_left
                        · (go_simp; try with_reducible rfl)
                        try simp only [Act.put, List.setIfInBounds_toArray, List.set_cons_zero, List.set_cons_succ]
                        refine take_val (v := ?_) 6 (some 154) rfl (by kernel_rfl) (by kernel_rfl) (by kernel_rfl) (fun _ _ _ h => h) rfl rfl (fun w hSw => ?_) hHeld ?_
                        rotate_left
                        · (go_simp; try with_reducible rfl)
                        try simp only [Act.put, List.setIfInBounds_toArray, List.set_cons_zero, List.set_cons_succ]
                        refine take_val (v := (.int .i64 (k2 : Int))) 7 (some 155) rfl (by kernel_rfl) (by kernel_rfl) (by kernel_rfl) (fun _ _ _ h => h) rfl rfl (fun w hSw => ?_) hHeld ?_
                        · have ee := HE.out.1
                          (go_simp; try with_reducible rfl)
                        try simp only [Act.put, List.setIfInBounds_toArray, List.set_cons_zero, List.set_cons_succ]
                        refine take_val (v := (.int .i64 (q1 : Int))) 8 (some 156) rfl (by kernel_rfl) (by kernel_rfl) (by kernel_rfl) (fun _ _ _ h => h) rfl rfl (fun w hSw => ?_) hHeld ?_
                        · have ee := HE.out.2.1
                          (go_simp; try with_reducible rfl)
                        try simp only [Act.put, List.setIfInBounds_toArray, List.set_cons_zero, List.set_cons_succ]
                        refine take_val (v := (.pointer (some ⟨lg, lo + q1 * 32, none⟩))) 9 (some 157) rfl (by kernel_rfl) (by kernel_rfl) (by kernel_rfl) (fun _ _ _ h => h) rfl rfl (fun w hSw => ?_) hHeld ?_
                        · (go_simp; try with_reducible rfl)
                        try simp only [Act.put, List.setIfInBounds_toArray, List.set_cons_zero, List.set_cons_succ]
                        refine take_val (v := (.agg (yC 32 fa))) 10 (some 158) rfl (by kernel_rfl) (by kernel_rfl) (by kernel_rfl) (fun _ _ _ h => h) rfl rfl (fun w hSw => ?_) hHeld ?_
                        · exact exec_load_m w 69 _ rfl lg (lo + q1 * 32) rfl (yL 32 fa) _ (rangeAt_chg HLA.out HLG.out (CW.trans1 hSw) (by simp)) Tryd.underlying69 rfl (by rw [yL_len]; exact randInfo)
                        try simp only [Act.put, List.setIfInBounds_toArray, List.set_cons_zero, List.set_cons_succ]
                        refine take_val (v := ?_) 11 (some 159) rfl (by kernel_rfl) (by kernel_rfl) (by kernel_rfl) (fun _ _ _ h => h) rfl rfl (fun w hSw => ?_) hHeld ?_
                        rotate_left
                        · (go_simp; try with_reducible rfl)
                        try simp only [Act.put, List.setIfInBounds_toArray, List.set_cons_zero, List.set_cons_succ]
                        refine take_val (v := ?_) 12 (some 160) rfl (by kernel_rfl) (by kernel_rfl) (by kernel_rfl) (fun _ _ _ h => h) rfl rfl (fun w hSw => ?_) hHeld ?_
                        rotate_left
                        · (go_simp; try with_reducible rfl)
                        try simp only [Act.put, List.setIfInBounds_toArray, List.set_cons_zero, List.set_cons_succ]
                        refine take_val (v := ?_) 13 (some 161) rfl (by kernel_rfl) (by kernel_rfl) (by kernel_rfl) (fun _ _ _ h => h) rfl rfl (fun w hSw => ?_) hHeld ?_
                        rotate_left
                        · (go_simp; try with_reducible rfl)
                        try simp only [Act.put, List.setIfInBounds_toArray, List.set_cons_zero, List.set_cons_succ]
                        refine take_val (v := (.int .i64 (k2 : Int))) 14 (some 162) rfl (by kernel_rfl) (by kernel_rfl) (by kernel_rfl) (fun _ _ _ h => h) rfl rfl (fun w hSw => ?_) hHeld ?_
                        · have ee := HE.out.1
                          (go_simp; try with_reducible rfl)
                        try simp only [Act.put, List.setIfInBounds_toArray, List.set_cons_zero, List.set_cons_succ]
                        refine take_val (v := (.int .i64 (q1 : Int))) 15 (some 163) rfl (by kernel_rfl) (by kernel_rfl) (by kernel_rfl) (fun _ _ _ h => h) rfl rfl (fun w hSw => ?_) hHeld ?_
                        · have ee := HE.out.2.1
                          (go_simp; try with_reducible rfl)
                        try simp only [Act.put, List.setIfInBounds_toArray, List.set_cons_zero, List.set_cons_succ]
                        refine take_val (v := (.int .i64 (q2 : Int))) 16 (some 164) rfl (by kernel_rfl) (by kernel_rfl) (by kernel_rfl) (fun _ _ _ h => h) rfl rfl (fun w hSw => ?_) hHeld ?_
                        · have ee := HE.out.2.2
                          (go_simp; try with_reducible rfl)
                        try simp only [Act.put, List.setIfInBounds_toArray, List.set_cons_zero, List.set_cons_succ]
                        refine take_val (v := (.pointer (some ⟨lg, lo + q2 * 32, none⟩))) 17 (some 165) rfl (by kernel_rfl) (by kernel_rfl) (by kernel_rfl) (fun _ _ _ h => h) rfl rfl (fun w hSw => ?_) hHeld ?_
                        · (go_simp; try with_reducible rfl)
                        try simp only [Act.put, List.setIfInBounds_toArray, List.set_cons_zero, List.set_cons_succ]
                        refine take_val (v := (.agg (yC 32 fb))) 18 (some 166) rfl (by kernel_rfl) (by kernel_rfl) (by kernel_rfl) (fun _ _ _ h => h) rfl rfl (fun w hSw => ?_) hHeld ?_
                        · exact exec_load_m w 69 _ rfl lg (lo + q2 * 32) rfl (yL 32 fb) _ (rangeAt_chg HLB.out HLG.out (CW.trans1 hSw) (by simp)) Tryd.underlying69 rfl (by rw [yL_len]; exact randInfo)
                        try simp only [Act.put, List.setIfInBounds_toArray, List.set_cons_zero, List.set_cons_succ]
                        refine wpAnyH_ready (rs := [19]) (by kernel_rfl) (by simp) ?_
                        refine AllReadyH.cons (o := _) rfl (fun K' hK => ?_) ?_
                        ·
                          go_simp
                          refine (HTW.out _).mono ?_
                          rintro e v1 ⟨rfl, k1⟩
                          go_wp2_with fail
                          refine hK.out _ _ (hHeld.trans1 k1) (fun hHeld => ?_)
                          clear hK K'
                          try simp only [Act.put, List.setIfInBounds_toArray, List.set_cons_zero, List.set_cons_succ]
                          clear k1
                          refine take_val (v := (.bool false)) 20 (some 168) rfl (by kernel_rfl) (by kernel_rfl) (by kernel_rfl) (fun _ _ _ h => h) rfl rfl (fun w hSw => ?_) hHeld ?_
                          · have hh := heqk
                            (go_simp; try with_reducible rfl)
                          try simp only [Act.put, List.setIfInBounds_toArray, List.set_cons_zero, List.set_cons_succ]
                          refine wpAnyH_done (by kernel_rfl) ?_ _
                          have CF := CR.trans1 hHeld
                          clear hHeld
                          go_wp2_with fail
                          exact ⟨⟨k + 1, HK.out.2, by go_num, CF⟩, by have := HK.out; simp [intOf]; omega⟩
                        exact AllReadyH.nil
                      · have hK : ¬ (k : Int) < (G : Int) := by omega
                        have HZk : Hid (b ≤ wr.heap.size) := Nat.le_trans HZ7.out CR.size
                        clear hk hkG
                        go_wp2_with fail
                        exact ⟨⟨i + 1, _, HI.out.2, HFIN.out.2, by go_num, rfl, HFIN.out.1.chg CR, HZk.out, CW⟩, by have := HI.out; simp [intOf]; omega⟩
            · have hI : ¬ (i : Int) < (A : Int) := by omega
              obtain ⟨m, hm⟩ : ∃ m, n - a = m := ⟨_, rfl⟩
              rw [hm] at T
              have eS : IntKind.i64.wrap ((n : Int) - (a : Int)) = (m : Int) := by have := HN4.out; rw [IntKind.wrap_i64]; omega
              have eM : ((m : Int) == (m : Int)) = true := by simp
              have HT : Hid (TS b wr tb m (fun j => r (j + a))) := T
              clear hm h8 hi T ha
              go_wp2_with fail
              refine HT.out.left.mono ?_
              rintro e w5 ⟨rfl, rfl⟩
              go_wp2_with fail
              refine (aliveD_s _ (HG.out _ C)).mono ?_
              rintro e w6 ⟨rfl, k6⟩
              go_wp2_with fail
              go_ret
              exact ⟨rfl, C.trans1 k6⟩
end Go.Proofs.YthpfdnkcepfbaaaDoor
