/- seal: mask, Stream. -/
import Derived.Test.YtnopkojpgemldaaSeD
import Derived.Lib.MinMax
set_option linter.unusedVariables false
set_option linter.unusedSimpArgs false
set_option linter.unnecessarySimpa false
namespace Go.Proofs.Ytnopkojpgemldaa
open Go.RowKit

theorem lay_up (t : Nat → Nat) (o n : Nat) (F : Nat → Nat) : up (lay t o n F) (o + n) (F n) = lay t o (n + 1) F := by
  funext j
  unfold up lay
  by_cases h : j = o + n
  · subst h
    rw [if_pos rfl, if_pos (by omega), Nat.add_sub_cancel_left]
  · rw [if_neg h]
    by_cases h2 : o ≤ j ∧ j < o + n
    · rw [if_pos h2, if_pos (by omega)]
    · rw [if_neg h2, if_neg (by omega)]
theorem ksS_at (s : Nat → Nat) (q r : Nat) (hr : r < 64) : ksS s (64 * q + r) = bkB (up s 12 ((s 12 + q) % 4294967296)) r := by
  unfold ksS
  rw [show (64 * q + r) / 64 = q by omega, show (64 * q + r) % 64 = r by omega]
theorem up_step (s : Nat → Nat) (q : Nat) : up (up s 12 ((s 12 + q) % 4294967296)) 12 ((up s 12 ((s 12 + q) % 4294967296) 12 + 1) % 4294967296) = up s 12 ((s 12 + (q + 1)) % 4294967296) := by
  funext j
  unfold up
  by_cases h : j = 12
  · rw [if_pos h, if_pos h, if_pos rfl]; omega
  · rw [if_neg h, if_neg h, if_neg h]
theorem up_zero {s : Nat → Nat} (h : V16 s) : tC 16 s = tC 16 (up s 12 ((s 12 + 0) % 4294967296)) := tC_eq fun j hj => by
  unfold up
  by_cases h2 : j = 12
  · subst h2
    have := h 12 (by omega)
    unfold V at this
    rw [if_pos rfl]; omega
  · rw [if_neg h2]
theorem Chg.cell {w w' : World} {l : List Nat} (h : Chg w w' l) (k i : Nat) (hk : k < w.heap.size) (hl : ¬ k ∈ l) : w'.cell? ⟨k, i, none⟩ = w.cell? ⟨k, i, none⟩ := by
  have e := h.block k hk hl
  simp [World.cell?, e]
def slz : Value → Nat
  | .slice _ n _ => n
  | _ => 0
theorem min_w {P : Program} {w : World} {ops : Array Oper} {rest : List Oper} {o : Oper} {a : Act} {Q : Exit → Act → World → Prop} (hgd : o.guard = none) (x y : Operand) (tys : Array TypeId)
    (ho : o.op = .call { callee := .builtin .min, args := #[x, y], argTypes := tys }) (m k r : Nat) (hx : a.eval x = .int .i64 (m : Int)) (hy : a.eval y = .int .i64 (k : Int)) (hr : r = Nat.min m k)
    (h : wpList P ops Q rest (a.put o.dst (.int .i64 (r : Int))) w) : wpList P ops Q (o :: rest) a w := by
  refine wpList_plain hgd fun K hK => ?_
  have hrun : (Builtin.min_ tys o.type #[.int .i64 (m : Int), .int .i64 (k : Int)]).run P w = .ok (.int .i64 (r : Int)) w := by
    rw [Go.Lib.run_min_ints]
    have e : min (m : Int) (k : Int) = (r : Int) := by
      have e2 : r = min m k := hr
      rw [e2]; omega
    rw [e]
  unfold Oper.wp
  simp [execOp, ho, resolve, invoke, builtin, hx, hy, hrun, Result.andThen]
  exact hK _ _ h
/-- What mask's loop keeps. -/
def MI (w : World) (g o N n : Nat) (f t s : Nat → Nat) (sb : Nat) (T : TypeId) (t0 t1 : Value) (wr : World) : Prop :=
  ∃ (u q m : Nat) (po po' : Option Addr) (cc cc' : Nat), (u + m = n ∧ t0 = .slice po m cc ∧ t1 = .slice po' m cc') ∧ (m ≤ cc ∧ m ≤ cc' ∧ cc ≤ 9223372036854775807 ∧ cc' ≤ 9223372036854775807) ∧
    (0 < m → u = 64 * q ∧ po = some ⟨g, o + u, none⟩ ∧ ∃ gs os, po' = some ⟨gs, os, none⟩ ∧ ¬ gs = g ∧ Bs w gs os m (fun i => f (u + i))) ∧
    Blk wr g (yC N (lay t o u (xo f (ksS s)))) T ∧ Blk wr sb (tC 16 (up s 12 ((s 12 + q) % 4294967296))) 89 ∧ Chg w wr [g]
set_option maxHeartbeats 8000000 in
set_option maxRecDepth 100000 in
theorem mask_s (g o c N : Nat) (T : TypeId) (v : Value) (n : Nat) (f t s : Nat → Nat) (hs : V16 s) (w : World) (hg : Blk w g (yC N t) T) (hv : Sz w v n f) (hz : Oz v [g]) (hn : o + n ≤ N) (hc : n ≤ c) (hc2 : c ≤ 9223372036854775807) (op : Option Addr) (hop : 0 < n → op = some ⟨g, o, none⟩) :
    Calls Try.prog 30 #[.slice op n c, v, .agg (tC 16 s)] w fun e w' => e = .returned (.tuple #[]) ∧ Blk w' g (yC N (lay t o n (xo f (ksS s)))) T ∧ Chg w w' [g] := by
  obtain ⟨p, c', rfl, h1, h2, h3⟩ := hv
  have HV : Hid (V16 s) := hs
  have HG : Hid (g < w.heap.size ∧ o + n ≤ N) := ⟨hg.lt, hn⟩
  have H0 : Hid (MI w g o N n f t s w.heap.size T (.slice op n c) (.slice p n c') (w.alloc (.cells (tC 16 s) 89))) := by
    refine ⟨0, 0, n, op, p, c, c', ⟨by omega, rfl, rfl⟩, ⟨hc, h1, hc2, h2⟩, fun h0 => ?_, ?_, ?_, ?_⟩
    · obtain ⟨gs, os, rfl, hb⟩ := h3 h0
      exact ⟨by omega, hop h0, gs, os, rfl, fun e => hz gs os n c' h0 rfl (by simp [e]), by simpa using hb⟩
    · rw [lay_zero]; exact hg.alloc _
    · rw [← up_zero HV.out]; exact Blk.new _ _ _
    · exact (Chg.refl w _).alloc _
  clear hs hg hz h1 h2 h3 hop hc hc2 hn
  go_enter Try.func30, Try.ntmps30
  go_wp2_with fail
  obtain ⟨sb, hsb⟩ : ∃ x, x = w.heap.size := ⟨_, rfl⟩
  obtain ⟨w1, hw1⟩ : ∃ x, x = w.alloc (.cells (tC 16 s) 89) := ⟨_, rfl⟩
  rw [← hsb, ← hw1] at H0
  rw [← hsb, ← hw1]
  clear hw1
  have HB : Hid (¬ sb = g ∧ w.heap.size ≤ sb) := ⟨by have := HG.out; omega, by omega⟩
  clear hsb
  go_loopw [0, 1] (fun t0 t1 wr => MI w g o N n f t s sb T t0 t1 wr) (fun t0 t1 _ => slz t1)
  case atStart => exact H0.out
  case round =>
    clear H0
    obtain ⟨u, q, m, po, po', cc, cc', ⟨hum, rfl, rfl⟩, ⟨hm1, hm2, hm3, hm4⟩, hm, b0, bs, c0⟩ := hrel
    by_cases h0 : 0 < m
    · obtain ⟨hu, rfl, gs, os, rfl, hne, hb⟩ := hm h0
      have hI : (0 : Int) < (m : Int) := by omega
      have HS : Hid (V16 (up s 12 ((s 12 + q) % 4294967296))) := up_V HV.out 12 (modV _)
      have HNX : Hid (up (up s 12 ((s 12 + q) % 4294967296)) 12 ((up s 12 ((s 12 + q) % 4294967296) 12 + 1) % 4294967296) = up s 12 ((s 12 + (q + 1)) % 4294967296)) := up_step s q
      have HKS : Hid (∀ r, r < 64 → ksS s (u + r) = bkB (up s 12 ((s 12 + q) % 4294967296)) r) := fun r hr => by rw [hu]; exact ksS_at s q r hr
      obtain ⟨X, hX⟩ : ∃ X, up s 12 ((s 12 + q) % 4294967296) = X := ⟨_, rfl⟩
      rw [hX] at HS HNX HKS bs
      clear hX
      obtain ⟨r, hr⟩ : ∃ r, r = Nat.min m 64 := ⟨_, rfl⟩
      have HR : Hid (r = Nat.min m 64 ∧ r ≤ m ∧ r ≤ 64 ∧ 0 < r ∧ (r < m → r = 64)) := ⟨hr, by have e : r = min m 64 := hr; omega, by have e : r = min m 64 := hr; omega, by have e : r = min m 64 := hr; omega, by have e : r = min m 64 := hr; omega⟩
      have HM : Hid ((u + m = n ∧ u = 64 * q) ∧ m ≤ cc ∧ m ≤ cc' ∧ cc ≤ 9223372036854775807 ∧ cc' ≤ 9223372036854775807) := ⟨⟨hum, hu⟩, hm1, hm2, hm3, hm4⟩
      have HBs : Hid (Bs w gs os m (fun i => f (u + i)) ∧ ¬ gs = g) := ⟨hb, hne⟩
      clear hr hum hu hm1 hm2 hm3 hm4 hb hne hm h0
      go_wp2_with fail
      refine (block_s sb X HS.out wr bs).mono ?_
      rintro e w2 ⟨rfl, k2⟩
      replace b0 := b0.chg k2 (by simp)
      replace bs := bs.chg k2 (by simp)
      replace c0 := c0.trans1 k2.wide
      have HL : Hid (g < w2.heap.size ∧ sb < w2.heap.size ∧ gs < w2.heap.size) := ⟨b0.lt, bs.lt, Nat.lt_of_lt_of_le HBs.out.1.lt c0.size⟩
      clear k2
      go_wp2_with (first
        | (refine min_w rfl (.tmp 14) (.const (.int .i64 64)) #[3, 3] rfl m 64 r rfl rfl HR.out.1 ?_)
        | (refine store_w BB rfl 39 _ _ (yC 64 (bkB X)) rfl rfl rfl (by rw [yC_size]; exact b64Info) (by rw [yC_size, yC_size]) (yC_one 64 _) ?_; intro w4 BB4 k4)
        | (with_reducible refine alloc_w rfl 39 rfl (.agg (yC 64 (fun _ => 0))) zeroB64 (yC 64 (fun _ => 0)) rfl ?_; intro bb w3 hbb BB k3))
      have HBB : Hid (¬ bb = g ∧ ¬ bb = sb ∧ ¬ bb = gs ∧ w.heap.size ≤ bb) := ⟨by have := HL.out; omega, by have := HL.out; omega, by have := HL.out; omega, by have := c0.size; omega⟩
      have b4 := (b0.chg k3 (by simp)).chg k4 (by have := HBB.out; simp; omega)
      have bs4 := (bs.chg k3 (by simp)).chg k4 (by have := HBB.out; simp; omega)
      have c4 : Chg w w4 [g] := (c0.trans1 k3.wide).trans k4 (by intro i hi; simp at hi; subst hi; exact Or.inr HBB.out.2.2.2)
      clear b0 bs c0 k3 k4 BB hbb
      obtain ⟨wo, rfl⟩ : ∃ z, z = wr := ⟨wr, rfl⟩
      go_loopw [17] (fun tt wr => ∃ i : Nat, i ≤ r ∧ tt = .int .i64 (i : Int) ∧ Blk wr g (yC N (lay t o (u + i) (xo f (ksS s)))) T ∧ Chg w4 wr [g]) (fun tt _ => ((r : Int) - intOf tt).toNat)
      case atStart => exact ⟨0, by omega, rfl, b4, Chg.refl _ _⟩
      case round =>
        obtain ⟨i, hi, rfl, b0, c0⟩ := hrel
        by_cases h8 : i < r
        · have hI1 : (i : Int) < (r : Int) := by omega
          have hI2 : (i : Int) < (m : Int) := by have := HR.out; omega
          have hI3 : (i : Int) < 64 := by have := HR.out; omega
          have e1 : IntKind.i64.wrap ((i : Int) + 1) = (i : Int) + 1 := by have := HR.out; rw [IntKind.wrap_i64]; omega
          have cb : w4.cell? ⟨gs, os + i, none⟩ = some (.int .u8 ((f (u + i) : Nat) : Int)) := by
            have h := (HBs.out.1.chg c4 (by have := HBs.out.2; simpa using this)).cell i (by have := HR.out; omega)
            exact h
          have ck := (BB4.cell i).trans (yC_get 64 _ i (by have := HR.out; omega))
          have hxo : Hid (bits .xor .u8 ((f (u + i) : Nat) : Int) ((bkB X i : Nat) : Int) = ((xo f (ksS s) (u + i) : Nat) : Int)) := by
            show bits .xor .u8 ((f (u + i) : Nat) : Int) ((bkB X i : Nat) : Int) = ((xo f (ksS s) (u + i) : Nat) : Int)
            rw [u8_xor_nat _ _ (HBs.out.1.bd i (by have := HR.out; omega)) (bkB_lt _ _), ← HKS.out i (by have := HR.out; omega)]
            rfl
          have HW : Hid (w4.cell? ⟨gs, os + i, none⟩ = some (.int .u8 ((f (u + i) : Nat) : Int)) ∧ w4.cell? ⟨bb, i, none⟩ = some (.int .u8 ((bkB X i : Nat) : Int))) := ⟨cb, ck⟩
          have HST : Hid (up (lay t o (u + i) (xo f (ksS s))) (o + u + i) (xo f (ksS s) (u + i)) = lay t o (u + (i + 1)) (xo f (ksS s))) := by
            show up (lay t o (u + i) (xo f (ksS s))) (o + u + i) (xo f (ksS s) (u + i)) = _
            rw [Nat.add_assoc o u i, lay_up, Nat.add_assoc]
          obtain ⟨A, hA⟩ : ∃ A, f (u + i) = A := ⟨_, rfl⟩
          obtain ⟨D, hD⟩ : ∃ D, bkB X i = D := ⟨_, rfl⟩
          obtain ⟨E, hE⟩ : ∃ E, xo f (ksS s) (u + i) = E := ⟨_, rfl⟩
          rw [hA, hD, hE] at hxo
          rw [hA, hD] at HW
          rw [hE] at HST
          have ex : bits .xor .u8 (A : Int) (D : Int) = (E : Int) := hxo.out
          have HLT : Hid (o + u + i < N) := by have h1 := HG.out.2; have h2 := HM.out.1.1; have h3 := HR.out; show o + u + i < N; omega
          clear cb ck hA hD hE hxo
          go_wp2_with fail
          have bk0 := b0.drew
          have ck0 := c0.drew
          have hHeld : wr.drew.cell? ⟨gs, os + i, none⟩ = some (.int .u8 (A : Int)) ∧ wr.drew.cell? ⟨bb, i, none⟩ = some (.int .u8 (D : Int)) := by
            refine ⟨?_, ?_⟩
            · rw [c0.drew.cell gs (os + i) (Nat.lt_of_lt_of_le HBs.out.1.lt c4.size) (by have := HBs.out.2; simpa using this)]; exact HW.out.1
            · rw [c0.drew.cell bb i BB4.lt (by have := HBB.out.1; simpa using this)]; exact HW.out.2
          refine lt_begin (fun w' => w'.cell? ⟨gs, os + i, none⟩ = some (.int .u8 (A : Int)) ∧ w'.cell? ⟨bb, i, none⟩ = some (.int .u8 (D : Int))) (fun n => n == 11) (by kernel_rfl) ?_
          obtain ⟨z0, hz⟩ : ∃ z, z = wr.drew := ⟨_, rfl⟩
          rw [← hz] at bk0 ck0 hHeld ⊢
          clear hz b0 c0
          have cx := (bk0.cell (o + u + i)).trans (yC_get N _ _ HLT.out)
          have fx := bk0.frozen (o + u + i)
          have b1 := (bk0.setCell (o + u + i) (.int .u8 (E : Nat))).to ((yC_set N _ _ E).trans (congrArg (yC N) HST.out))
          have c1 := ck0.setIn (k := g) (by simp) (o + u + i) (.int .u8 (E : Nat))
          refine lt_val (v := ?_) 0 (some 20) rfl (by kernel_rfl) (by kernel_rfl) (by kernel_rfl) (fun _ _ _ h => h) rfl rfl (fun w => ?_) ?_
          rotate_left
          · (go_simp; try with_reducible rfl)
          try simp only [Act.put, List.setIfInBounds_toArray, List.set_cons_zero, List.set_cons_succ]
          refine lt_val (v := ?_) 1 (some 21) rfl (by kernel_rfl) (by kernel_rfl) (by kernel_rfl) (fun _ _ _ h => h) rfl rfl (fun w => ?_) ?_
          rotate_left
          · (go_simp; try with_reducible rfl)
          try simp only [Act.put, List.setIfInBounds_toArray, List.set_cons_zero, List.set_cons_succ]
          refine lt_val (v := ?_) 2 (some 22) rfl (by kernel_rfl) (by kernel_rfl) (by kernel_rfl) (fun _ _ _ h => h) rfl rfl (fun w => ?_) ?_
          rotate_left
          · (go_simp; try with_reducible rfl)
          try simp only [Act.put, List.setIfInBounds_toArray, List.set_cons_zero, List.set_cons_succ]
          refine lt_val (v := ?_) 3 (some 23) rfl (by kernel_rfl) (by kernel_rfl) (by kernel_rfl) (fun _ _ _ h => h) rfl rfl (fun w => ?_) ?_
          rotate_left
          · (go_simp; try with_reducible rfl)
          try simp only [Act.put, List.setIfInBounds_toArray, List.set_cons_zero, List.set_cons_succ]
          refine lt_val (v := ?_) 4 (some 24) rfl (by kernel_rfl) (by kernel_rfl) (by kernel_rfl) (fun _ _ _ h => h) rfl rfl (fun w => ?_) ?_
          rotate_left
          · (go_simp; try with_reducible rfl)
          try simp only [Act.put, List.setIfInBounds_toArray, List.set_cons_zero, List.set_cons_succ]
          refine lt_read (v := ?_) 5 (some 25) rfl (by kernel_rfl) (by kernel_rfl) (by kernel_rfl) (by kernel_rfl) (fun _ _ _ h => h) rfl rfl (fun w hSw => ?_) hHeld ?_
          rotate_left
          · obtain ⟨qa, qb⟩ := hSw; (go_simp; try with_reducible rfl)
          try simp only [Act.put, List.setIfInBounds_toArray, List.set_cons_zero, List.set_cons_succ]
          refine lt_val (v := ?_) 6 (some 26) rfl (by kernel_rfl) (by kernel_rfl) (by kernel_rfl) (fun _ _ _ h => h) rfl rfl (fun w => ?_) ?_
          rotate_left
          · (go_simp; try with_reducible rfl)
          try simp only [Act.put, List.setIfInBounds_toArray, List.set_cons_zero, List.set_cons_succ]
          refine lt_val (v := ?_) 7 (some 27) rfl (by kernel_rfl) (by kernel_rfl) (by kernel_rfl) (fun _ _ _ h => h) rfl rfl (fun w => ?_) ?_
          rotate_left
          · (go_simp; try with_reducible rfl)
          try simp only [Act.put, List.setIfInBounds_toArray, List.set_cons_zero, List.set_cons_succ]
          refine lt_read (v := ?_) 8 (some 28) rfl (by kernel_rfl) (by kernel_rfl) (by kernel_rfl) (by kernel_rfl) (fun _ _ _ h => h) rfl rfl (fun w hSw => ?_) hHeld ?_
          rotate_left
          · obtain ⟨qa, qb⟩ := hSw; (go_simp; try with_reducible rfl)
          try simp only [Act.put, List.setIfInBounds_toArray, List.set_cons_zero, List.set_cons_succ]
          refine lt_val (v := ?_) 9 (some 29) rfl (by kernel_rfl) (by kernel_rfl) (by kernel_rfl) (fun _ _ _ h => h) rfl rfl (fun w => ?_) ?_
          rotate_left
          · (go_simp; try with_reducible rfl)
          try simp only [Act.put, List.setIfInBounds_toArray, List.set_cons_zero, List.set_cons_succ]
          refine lt_val (v := ?_) 10 (some 30) rfl (by kernel_rfl) (by kernel_rfl) (by kernel_rfl) (fun _ _ _ h => h) rfl rfl (fun w => ?_) ?_
          rotate_left
          · (go_simp; try with_reducible rfl)
          try simp only [Act.put, List.setIfInBounds_toArray, List.set_cons_zero, List.set_cons_succ]
          refine lt_one 11 rfl (by kernel_rfl) rfl (fun K hK => ?_)
          go_simp
          refine hK.out _ _ (fun h => absurd h (by decide)) ?_
          clear hK K
          try simp only [Act.put, List.setIfInBounds_toArray, List.set_cons_zero, List.set_cons_succ]
          refine lt_done (by kernel_rfl) ?_ _
          go_wp2_with fail
          exact ⟨⟨i + 1, by omega, by go_num, b1, c1⟩, by simp [intOf]; omega⟩
        · obtain rfl : i = r := by omega
          have bs5 := bs4.chg c0 (by have := HB.out; simp; omega)
          have c5 : Chg w wr [g] := c4.trans1 c0
          clear b4 bs4 c4 c0 BB4
          have hsl : (i : Int) ≤ (m : Int) := by have := HR.out; omega
          have hsl2 : (m : Int) ≤ (cc : Int) := by have := HM.out; omega
          have hsl3 : (m : Int) ≤ (cc' : Int) := by have := HM.out; omega
          have XV : V16 X := HS.out
          obtain ⟨Y, hY⟩ : ∃ Y, X 12 = Y := ⟨_, rfl⟩
          have cs := (bs5.cell 12).trans (tC_get 16 _ 12 (by omega))
          have fs := bs5.frozen 12
          rw [hY] at cs
          obtain ⟨Z, hZ⟩ : ∃ Z, (Y + 1) % 4294967296 = Z := ⟨_, rfl⟩
          have ey : IntKind.u32.wrap ((Y : Int) + 1) = (Z : Int) := by rw [IntKind.wrap_u32]; omega
          have bs6 := (bs5.setCell 12 (.int .u32 (Z : Nat))).to ((tC_set 16 _ 12 Z).trans (congrArg (tC 16) (show up X 12 Z = up s 12 ((s 12 + (q + 1)) % 4294967296) from by rw [← hZ, ← hY]; exact HNX.out)))
          have b6 := b0.setOther (d := sb) (by have := HB.out; omega) 12 (.int .u32 (Z : Nat))
          have c6 : Chg w (wr.setCell ⟨sb, 12, none⟩ (.int .u32 (Z : Nat))) [g] := c5.setNew HB.out.2 12 _
          have HF : Hid (Blk (wr.setCell ⟨sb, 12, none⟩ (.int .u32 (Z : Nat))) g (yC N (lay t o (u + i) (xo f (ksS s)))) T ∧ Blk (wr.setCell ⟨sb, 12, none⟩ (.int .u32 (Z : Nat))) sb (tC 16 (up s 12 ((s 12 + (q + 1)) % 4294967296))) 89 ∧ Chg w (wr.setCell ⟨sb, 12, none⟩ (.int .u32 (Z : Nat))) [g]) := ⟨b6, bs6, c6⟩
          clear b6 bs6 c6 hY hZ XV bs5 c5 b0
          go_wp2_with fail
          refine lt_begin (fun w' => True) (fun n => false) (by kernel_rfl) ?_
          refine lt_val (v := ?_) 0 (some 32) rfl (by kernel_rfl) (by kernel_rfl) (by kernel_rfl) (fun _ _ _ h => h) rfl rfl (fun w => ?_) ?_
          rotate_left
          · (go_simp; try with_reducible rfl)
          try simp only [Act.put, List.setIfInBounds_toArray, List.set_cons_zero, List.set_cons_succ]
          refine lt_val (v := ?_) 1 (some 33) rfl (by kernel_rfl) (by kernel_rfl) (by kernel_rfl) (fun _ _ _ h => h) rfl rfl (fun w => ?_) ?_
          rotate_left
          · (go_simp; try with_reducible rfl)
          try simp only [Act.put, List.setIfInBounds_toArray, List.set_cons_zero, List.set_cons_succ]
          refine lt_val (v := (.slice (some (if cc = i then ⟨g, o + u, none⟩ else ⟨g, o + u + i, none⟩)) (m - i) (cc - i))) 2 (some 34) rfl (by kernel_rfl) (by kernel_rfl) (by kernel_rfl) (fun _ _ _ h => h) rfl rfl (fun w => ?_) ?_
          · (go_simp; split <;> rfl)
          try simp only [Act.put, List.setIfInBounds_toArray, List.set_cons_zero, List.set_cons_succ]
          refine lt_val (v := ?_) 3 (some 35) rfl (by kernel_rfl) (by kernel_rfl) (by kernel_rfl) (fun _ _ _ h => h) rfl rfl (fun w => ?_) ?_
          rotate_left
          · (go_simp; try with_reducible rfl)
          try simp only [Act.put, List.setIfInBounds_toArray, List.set_cons_zero, List.set_cons_succ]
          refine lt_val (v := ?_) 4 (some 36) rfl (by kernel_rfl) (by kernel_rfl) (by kernel_rfl) (fun _ _ _ h => h) rfl rfl (fun w => ?_) ?_
          rotate_left
          · (go_simp; try with_reducible rfl)
          try simp only [Act.put, List.setIfInBounds_toArray, List.set_cons_zero, List.set_cons_succ]
          refine lt_val (v := (.slice (some (if cc' = i then ⟨gs, os, none⟩ else ⟨gs, os + i, none⟩)) (m - i) (cc' - i))) 5 (some 37) rfl (by kernel_rfl) (by kernel_rfl) (by kernel_rfl) (fun _ _ _ h => h) rfl rfl (fun w => ?_) ?_
          · (go_simp; split <;> rfl)
          try simp only [Act.put, List.setIfInBounds_toArray, List.set_cons_zero, List.set_cons_succ]
          refine lt_val (v := ?_) 6 (some 0) rfl (by kernel_rfl) (by kernel_rfl) (by kernel_rfl) (fun _ _ _ h => h) rfl rfl (fun w => ?_) ?_
          rotate_left
          · (go_simp; try with_reducible rfl)
          try simp only [Act.put, List.setIfInBounds_toArray, List.set_cons_zero, List.set_cons_succ]
          refine lt_val (v := ?_) 7 (some 1) rfl (by kernel_rfl) (by kernel_rfl) (by kernel_rfl) (fun _ _ _ h => h) rfl rfl (fun w => ?_) ?_
          rotate_left
          · (go_simp; try with_reducible rfl)
          try simp only [Act.put, List.setIfInBounds_toArray, List.set_cons_zero, List.set_cons_succ]
          refine lt_done (by kernel_rfl) ?_ _
          go_wp2_with fail
          have hR := HR.out
          have hM := HM.out
          refine ⟨⟨u + i, q + 1, m - i, _, _, cc - i, cc' - i, ⟨by omega, rfl, rfl⟩, ⟨by omega, by omega, by omega, by omega⟩, fun h => ?_, HF.out.1.drew, HF.out.2.1.drew, HF.out.2.2.drew⟩, ?_⟩
          · have h64 := hR.2.2.2.2 (by omega)
            refine ⟨by omega, by rw [if_neg (by omega), Nat.add_assoc], gs, os + i, by rw [if_neg (by omega)], HBs.out.2, ?_⟩
            have hb := HBs.out.1.sub i (m - i) (by omega)
            refine ⟨hb.lt, fun j hj => by rw [Nat.add_assoc]; exact hb.bd j hj, fun j hj => by rw [Nat.add_assoc u]; exact hb.cell j hj⟩
          · show m - i < m
            omega
    · obtain rfl : m = 0 := by omega
      obtain rfl : u = n := by omega
      go_wp2_with fail
      go_end0
      exact ⟨rfl, b0, c0⟩

theorem make_n (r : Nat) (hr : r ≤ 140737488355456) (W : World) : (Instr.makeSlice 26 (.int .i64 (r : Int)) (.int .i64 (r : Int))).run Try.prog W = .ok (.slice (some ⟨W.heap.size, 0, none⟩) r r) (W.alloc (.cells (yC r fun _ => 0) 5)) := by
  obtain ⟨i, hi, hz, h1, h2⟩ := u8Row
  have h := run_make (P := Try.prog) W 26 5 i (.int .u8 0) Try.underlying26 hi hz .i64 .i64 (r : Int) (r : Int) (by omega) (by omega) (by rw [h2]; omega) (by omega)
  rw [h, h1, Int.toNat_natCast, Nat.mul_one]
  show Result.ok _ (W.alloc (.cells (madeCells #[.int .u8 0] r) 5)) = _
  rw [made_y]
/-- make([]byte, n), the world a letter. -/
theorem make_w {w : World} {ops : Array Oper} {rest : List Oper} {o : Oper} {a : Act} {Q : Exit → Act → World → Prop} (hgd : o.guard = none) (x y : Operand) (ho : o.op = .makeSlice 26 x y) (r : Nat) (hx : a.eval x = .int .i64 (r : Int)) (hy : a.eval y = .int .i64 (r : Int)) (hr : r ≤ 140737488355456)
    (h : ∀ g w', w.heap.size ≤ g → Blk w' g (yC r fun _ => 0) 5 → Chg w w' [] → wpList Try.prog ops Q rest (a.put o.dst (.slice (some ⟨g, 0, none⟩) r r)) w') : wpList Try.prog ops Q (o :: rest) a w := by
  refine wpList_plain hgd fun K hK => ?_
  unfold Oper.wp execOp
  simp only [ho, hx, hy, Sem.run_bind, make_n r hr w, Sem.run_pure, Result.andThen_ok]
  exact hK _ _ (h _ _ (Nat.le_refl _) (Blk.new w _ _) ((Chg.refl w []).alloc _))
end Go.Proofs.Ytnopkojpgemldaa
