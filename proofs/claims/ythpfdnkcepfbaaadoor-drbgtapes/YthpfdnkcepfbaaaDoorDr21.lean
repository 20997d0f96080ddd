/- Tapes: a tape's state; ask; CopyRandoms, NewTape of any list. -/
import Derived.Test.YthpfdnkcepfbaaaDoorDr16
import Derived.Defers
import Derived.Recover
import Derived.Maps.AppendAt
set_option linter.unusedVariables false
set_option linter.unusedSimpArgs false
set_option linter.unnecessarySimpa false
namespace Go.Proofs.YthpfdnkcepfbaaaDoor
open Go.RowKit

/-- A tape with n left, the next of which is r 0; its blocks lie below b. -/
def TS (b : Nat) (w : World) (tb n : Nat) (r : Nat → Nat → Nat) : Prop := tb < b ∧ ∃ p c, Blk w tb #[.slice p n c, .bool true] 147 ∧ Rl w 32 (.slice p n c) n (rn r) ∧ ∀ g o s, p = some ⟨g, o, s⟩ → g < b
theorem TS.far {b : Nat} {w w' : World} {tb n : Nat} {r : Nat → Nat → Nat} {l : List Nat} (h : TS b w tb n r) (k : Chg w w' l) (hl : ∀ z, z ∈ l → b ≤ z) : TS b w' tb n r := by
  obtain ⟨h0, p, c, B, R, hp⟩ := h
  refine ⟨h0, p, c, B.chg k (fun hm => by have := hl _ hm; omega), R.chg k (fun g o n c e hx => ?_), hp⟩
  simp only [Value.slice.injEq] at e
  have := hp g o none e.1
  have := hl g hx
  omega
theorem TS.chg {b : Nat} {w w' : World} {tb n : Nat} {r : Nat → Nat → Nat} (h : TS b w tb n r) (k : Chg w w' []) : TS b w' tb n r := h.far k (by simp)
theorem TS.lt {b : Nat} {w : World} {tb n : Nat} {r : Nat → Nat → Nat} (h : TS b w tb n r) : tb < w.heap.size := by
  obtain ⟨_, p, c, B, R, _⟩ := h
  exact B.lt
theorem tape_ne {w : World} {tb g o : Nat} {v : Value} {f : Nat → Nat} (B : Blk w tb #[v, .bool true] 147) (hv : ∀ k z, ¬ v = .int k z) (h : w.rangeAt g o (yL 32 f)) : ¬ g = tb := fun e => by
  subst e
  have c := h 0 (.int .u8 ((f 0 : Nat) : Int)) (by unfold yL; rfl)
  rw [Nat.add_zero, B.cell] at c
  match o, c with
  | 0, c => exact hv _ _ (by simpa using c)
  | 1, c => simp at c
  | o + 2, c => simp at c
theorem TS.random {b : Nat} {w : World} {tb n : Nat} {r : Nat → Nat → Nat} (h : TS b w tb (n + 1) r) : Calls Tryd.prog 31 #[.pointer (some ⟨tb, 0, none⟩)] w fun e w' => e = .returned (.tuple #[.agg (yC 32 (r 0)), .int .i64 0]) ∧ TS b w' tb n (fun j => r (j + 1)) ∧ Chg w w' [tb] := by
  obtain ⟨h0, p, c, B, R, hp⟩ := h
  have R' := R
  rcases R.2 with ⟨hz, _⟩ | ⟨g, o, cap, e, h1, h2, h3, h4⟩
  · omega
  · simp only [Value.slice.injEq] at e
    obtain ⟨rfl, _, rfl⟩ := e
    have r0 : w.rangeAt g o (yL 32 (r 0)) := by
      have := h4 0 (by omega)
      rwa [Nat.zero_mul, Nat.add_zero] at this
    have hne := tape_ne B (fun k z q => by cases q) r0
    refine (TRandom_ok tb g o (n + 1) c r w (by omega) B R').mono ?_
    rintro e w' ⟨o', rfl, B', ho, k⟩
    refine ⟨rfl, ⟨h0, _, _, B', ⟨rn_ok _ _, Or.inr ⟨g, o', c - 1, rfl, by omega, by omega, Nat.lt_of_lt_of_le h3 k.size, fun i hi => ?_⟩⟩, fun g' o'' s e => by simp only [Option.some.injEq, Addr.mk.injEq] at e; have := hp g o none rfl; omega⟩, k⟩
    have q := rangeAt_chg (h4 (i + 1) (by omega)) h3 k (by simpa using hne)
    rw [ho (by omega)]
    rw [show o + (i + 1) * 32 = o + 32 + i * 32 by omega] at q
    exact q
theorem TS.ended {b : Nat} {w : World} {tb : Nat} {r : Nat → Nat → Nat} (h : TS b w tb 0 r) : Calls Tryd.prog 31 #[.pointer (some ⟨tb, 0, none⟩)] w fun e w' => e = .returned (.tuple #[.agg (yC 32 (fun _ => 0)), .int .i64 122]) ∧ TS b w' tb 0 r ∧ Chg w w' [tb] := by
  have h' := h
  obtain ⟨_, p, c, B, R, _⟩ := h
  refine (TRandom_end tb p c w B).mono ?_
  rintro e w' ⟨rfl, k⟩
  exact ⟨rfl, h'.chg k, k.wide⟩
theorem TS.left {b : Nat} {w : World} {tb n : Nat} {r : Nat → Nat → Nat} (h : TS b w tb n r) : Calls Tryd.prog 34 #[.pointer (some ⟨tb, 0, none⟩)] w fun e w' => e = .returned (.int .i64 (n : Int)) ∧ w' = w := by
  obtain ⟨_, p, c, B, R, _⟩ := h
  exact TLeft_s tb n c p true w B
theorem TS.cong {b : Nat} {w : World} {tb n : Nat} {r s : Nat → Nat → Nat} (h : TS b w tb n r) (e : ∀ j, j < n → r j = s j) : TS b w tb n s := by
  obtain ⟨h0, p, c, B, R, hp⟩ := h
  refine ⟨h0, p, c, B, ⟨rn_ok _ _, ?_⟩, hp⟩
  rcases R.2 with h0 | ⟨g, o, cap, e', h1, h2, h3, h4⟩
  · exact Or.inl h0
  · exact Or.inr ⟨g, o, cap, e', h1, h2, h3, fun i hi => by have := h4 i hi; unfold rn at this ⊢; rw [← e i hi]; exact this⟩
/-- The deferred closure of ask, where nothing panicked. -/
theorem ask_idle (p : Addr) (w : World) : CallsD Tryd.prog 137 #[.pointer (some p)] .returning w fun e u' w' => e = .returned (.tuple #[]) ∧ u' = .returning ∧ w' = w := by
  refine callsD_of_wpS Tryd.func137 rfl fun c₀ cs hu => ?_
  apply wpS_seq
  apply wpS_region
  simp [wpOpsS, go_sem, recoverD, hu, Tryd.ntmps137, Exit.thenS]
  refine wpS_cond (t := false) (by simp [Act.eval, Array.replicate]) ?_
  simp only [Bool.false_eq_true, if_false]
  refine wpS_of_wp (wp_skip ?_)
  cases c₀
  simp_all [bodyPostS, results, Tryd.results137]
theorem results_cc {P : Program} {fn : Func} {p q : Tmp} {ty te : TypeId} (h : fn.results = #[.cell p ty, .cell q te]) (tmps : Array Value) (w : World) (g : Nat) (t : TypeId) (cs : Array Value) (d : TypeDesc) (eb : Nat) (v : Value)
    (hp : tmps.getD p undef = .pointer (some ⟨g, 0, none⟩)) (hq : tmps.getD q undef = .pointer (some ⟨eb, 0, none⟩)) (hg : Blk w g cs t)
    (hu : P.underlying ty = some d) (hd : (match d with | .struct _ | .array _ _ => true | _ => false) = true) (hi : (P.info? ty).map (·.size) = some cs.size) (hl : (loadVar te ⟨eb, 0, none⟩).run P w = .ok v w) :
    (results fn tmps).run P w = .ok (.tuple #[.agg cs, v]) w := by
  have hp' : tmps[p]?.getD undef = .pointer (some ⟨g, 0, none⟩) := by simpa using hp
  have hq' : tmps[q]?.getD undef = .pointer (some ⟨eb, 0, none⟩) := by simpa using hq
  simp [results, h, hp', hq', asAddr, run_loadVar_row w g t ty cs (0, 0) d hg hu hd hi, hl]
theorem load_errno {w : World} {eb : Nat} {v : Value} (B : Blk w eb #[v] 41) : (loadVar 41 ⟨eb, 0, none⟩).run Tryd.prog w = .ok v w := by
  have c := B.cell 0
  simp [loadVar, Tryd.underlying41, go_sem] at *
  simp [c]
theorem zeroErrno : (Tryd.prog.info? 41).bind (·.zero) = some (.int .i64 0) := by kernel_rfl
set_option maxHeartbeats 4000000 in
set_option maxRecDepth 100000 in
theorem ask_s (tb : Nat) (F : Nat → Nat) (E : Int) (w : World) (T : World → Prop) (hT : ∀ W W', T W → Chg W W' [] → T W') (hTN : ∀ W W' z, T W → Chg W W' [z] → w.heap.size ≤ z → T W') (htb : tb < w.heap.size)
    (hR : ∀ W, Chg w W [] → Calls Tryd.prog 31 #[.pointer (some ⟨tb, 0, none⟩)] W fun e w' => e = .returned (.tuple #[.agg (yC 32 F), .int .i64 E]) ∧ T w' ∧ Chg W w' [tb]) :
    Calls Tryd.prog 103 #[.iface 81 (.pointer (some ⟨tb, 0, none⟩))] w fun e w' => e = .returned (.tuple #[.agg (yC 32 F), .int .i64 E]) ∧ T w' ∧ Chg w w' [tb] := by
  have HR : Hid (∀ W, Chg w W [] → Calls Tryd.prog 31 #[.pointer (some ⟨tb, 0, none⟩)] W fun e w' => e = .returned (.tuple #[.agg (yC 32 F), .int .i64 E]) ∧ T w' ∧ Chg W w' [tb]) := hR
  have HT : Hid (∀ W W' z, T W → Chg W W' [z] → w.heap.size ≤ z → T W') := hTN
  have HTB : Hid (tb < w.heap.size) := htb
  have hmf : ∀ (fn : Fn) (first cap : Array Value) (w : World), (Instr.makeFunc fn first cap).run Tryd.prog w = .ok (.func fn first cap) w := fun _ _ _ _ => rfl
  clear hR hT hTN htb
  go_enter_defers Tryd.func103, Tryd.ntmps103
  go_upto_region 1 with (first
    | (have _h := BR; refine alloc_w rfl 41 rfl (.int .i64 0) zeroErrno #[.int .i64 0] rfl ?_; intro eb w2 heb BE k2)
    | (with_reducible refine alloc_w rfl 69 rfl (.agg (yC 32 (fun _ => 0))) zeroRand (yC 32 (fun _ => 0)) rfl ?_; intro rb w1 hrb BR k1))
  have K2 := k1.trans1 k2
  have HS : Hid (w.heap.size ≤ rb ∧ rb < eb ∧ w.heap.size ≤ eb) := ⟨hrb, Nat.lt_of_lt_of_le BR.lt heb, Nat.le_trans k1.size heb⟩
  have BR2 := BR.chg k2 (by simp)
  clear BR k1 k2 hrb heb
  go_wp2_with fail
  refine (HR.out w2 K2).mono ?_
  rintro e w3 ⟨rfl, T3, k3⟩
  have BR3 := BR2.chg k3 (by have := HS.out; have := HTB.out; simp; omega)
  have BE3 := BE.chg k3 (by have := HS.out; have := HTB.out; simp; omega)
  have C3 : Chg w w3 [tb] := (K2.wide (l := [tb])).trans1 k3
  clear BR2 BE k3 K2
  have HBE : Hid (Blk w3 eb #[.int .i64 0] 41) := BE3
  have HT3 : Hid (T w3) := T3
  clear BE3 T3
  go_wp2_with (refine store_w BR3 rfl 69 _ _ (yC 32 F) rfl rfl rfl (by rw [yC_size]; exact randInfo) (by rw [yC_size, yC_size]) (yC_one 32 _) ?_; intro w4 BR4 k4; have BE4 := HBE.out.chg k4 (by have := HS.out; simp; omega); have ce := BE4.cell 0; have fe' := BE4.frozen 0)
  have BR5 := BR4.setOther (show rb ≠ eb by have := HS.out; omega) 0 (.int .i64 E)
  have BE5 : Blk (w4.setCell ⟨eb, 0, none⟩ (.int .i64 E)) eb #[.int .i64 E] 41 := BE4.setCell 0 _
  have k5 : Chg w4 (w4.setCell ⟨eb, 0, none⟩ (.int .i64 E)) [eb] := (Chg.refl w4 [eb]).setIn (by simp) 0 _
  have T5 := HT.out _ _ eb (HT.out _ _ rb HT3.out k4 HS.out.1) k5 HS.out.2.2
  have C5 : Chg w (w4.setCell ⟨eb, 0, none⟩ (.int .i64 E)) [tb] := (C3.new k4 HS.out.1).new k5 HS.out.2.2
  refine leaves_cons (f := 137) (args := #[.pointer (some ⟨eb, 0, none⟩)]) (by simp) (by simp [go_sem]) ?_
  refine (ask_idle ⟨eb, 0, none⟩ _).mono ?_
  rintro e u' w'' ⟨rfl, rfl, rfl⟩
  exact ⟨_, results_cc Tryd.results103 _ _ rb 69 (yC 32 F) _ eb (.int .i64 E) rfl rfl BR5 Tryd.underlying69 rfl (by rw [yC_size]; exact randInfo) (load_errno BE5), rfl, T5, C5⟩
/-- ask of a tape. -/
theorem ask_ok {b : Nat} {w : World} {tb n : Nat} {r : Nat → Nat → Nat} (h : TS b w tb (n + 1) r) (hb : b ≤ w.heap.size) : Calls Tryd.prog 103 #[.iface 81 (.pointer (some ⟨tb, 0, none⟩))] w fun e w' => e = .returned (.tuple #[.agg (yC 32 (r 0)), .int .i64 0]) ∧ TS b w' tb n (fun j => r (j + 1)) ∧ Chg w w' [tb] :=
  ask_s tb (r 0) 0 w (fun W => TS b W tb n (fun j => r (j + 1))) (fun W W' t k => t.chg k) (fun W W' z t k hz => t.far k (fun y hy => by simp at hy; omega)) h.lt (fun W k => (h.chg k).random)
theorem ask_end {b : Nat} {w : World} {tb : Nat} {r : Nat → Nat → Nat} (h : TS b w tb 0 r) (hb : b ≤ w.heap.size) : Calls Tryd.prog 103 #[.iface 81 (.pointer (some ⟨tb, 0, none⟩))] w fun e w' => e = .returned (.tuple #[.agg (yC 32 (fun _ => 0)), .int .i64 122]) ∧ TS b w' tb 0 r ∧ Chg w w' [tb] :=
  ask_s tb (fun _ => 0) 122 w (fun W => TS b W tb 0 r) (fun W W' t k => t.chg k) (fun W W' z t k hz => t.far k (fun y hy => by simp at hy; omega)) h.lt (fun W k => (h.chg k).ended)
/-- What CopyRandoms answers. -/
def CpQ (w w' : World) (n : Nat) (r : Nat → Nat → Nat) (e : Ending) : Prop := (n = 0 ∧ e = .returned (.slice none 0 0)) ∨ (0 < n ∧ ∃ g c, e = .returned (.slice (some ⟨g, 0, none⟩) n c) ∧ OwnR w' w.heap.size 69 32 (.slice (some ⟨g, 0, none⟩) n c) n (rn r))
set_option maxHeartbeats 4000000 in
set_option maxRecDepth 100000 in
theorem CopyRn_s (v : Value) (n : Nat) (r : Nat → Nat → Nat) (w : World) (hn2 : n ≤ 4398046511104) (hR : Rl w 32 v n (rn r)) :
    Calls Tryd.prog 29 #[v] w fun e w' => CpQ w w' n r e ∧ Chg w w' [] := by
  obtain ⟨ir, hir, hirz, hirs, hirb⟩ := rnRow
  have O0 : OwnR w w.heap.size 69 32 (.slice none 0 0) 0 (rn r) := OwnR.nil _ _ _ _ _
  rcases Nat.eq_zero_or_pos n with h0 | h0
  · subst h0
    have hR2 := hR.2
    clear hR
    rcases hR2 with ⟨_, rfl⟩ | ⟨g, o, cap, rfl, h5⟩
    · go_enter Tryd.func29, Tryd.ntmps29
      go_wp2_with (refine wpList_append_own_none rfl (.tmp 4) (.tmp 5) 78 rfl w.heap.size 69 ir 32 Tryd.underlying78 hir (.slice none 0 0) 0 (rL 32 0 (rn r)) rfl O0.1 rfl ?_)
      go_ret
      exact ⟨Or.inl ⟨rfl, rfl⟩, Chg.refl _ _⟩
    · clear h5
      go_enter Tryd.func29, Tryd.ntmps29
      go_wp2_with (refine wpList_append_own_at w rfl (.tmp 4) (.tmp 5) 78 rfl w.heap.size 69 ir (.agg (yC 32 (fun _ => 0))) 32 32 Tryd.underlying78 hir hirz hirs hirb rfl (by omega) (.slice none 0 0) 0 (rL 32 0 (rn r)) rfl O0.1 ⟨g, o, none⟩ 0 cap [] rfl rfl (fun j u hj => by simp at hj) (fun u hu => by simp at hu) (by simp [maxLen]) (by omega) (Nat.le_refl _) ?_; intro v' w1 q1 q2 q3 q4; have e := q3.2 ⟨rfl, rfl⟩; subst e)
      go_ret
      exact ⟨Or.inl ⟨rfl, rfl⟩, Chg.grown q2⟩
  · have HR : Hid (Rl w 32 v n (rn r) ∧ 0 < n ∧ n ≤ 4398046511104) := ⟨hR, h0, hn2⟩
    obtain ⟨p, c, rfl, _⟩ := hR.form
    clear hR h0 hn2
    go_enter Tryd.func29, Tryd.ntmps29
    go_wp2_with (refine wpList_append_r rfl (.tmp 4) (.tmp 5) 78 rfl 69 ir (.agg (yC 32 (fun _ => 0))) 32 32 Tryd.underlying78 hir hirz hirs hirb rfl (by omega) w.heap.size (.slice none 0 0) (.slice p n c) 0 n (rn r) (rn r) rfl rfl O0 HR.out.1 HR.out.2.1 (by have := HR.out; omega) (by have := HR.out; omega) (Nat.le_refl _) ?_; intro gg cap w1 O1 k1 _ _)
    have O2 : OwnR w1 w.heap.size 69 32 (.slice (some ⟨gg, 0, none⟩) n cap) n (rn r) := by
      have e : catR (rn r) 0 (rn r) = rn r := by funext i; unfold catR; rw [if_neg (by omega), Nat.sub_zero]
      rw [e] at O1
      simpa using O1
    go_ret
    exact ⟨Or.inr ⟨HR.out.2.1, gg, cap, rfl, O2⟩, k1⟩
set_option maxHeartbeats 4000000 in
set_option maxRecDepth 100000 in
theorem NewTape_nil (w : World) : Calls Tryd.prog 30 #[.slice none 0 0] w fun e w' => ∃ tb, e = .returned (.pointer (some ⟨tb, 0, none⟩)) ∧ w.heap.size ≤ tb ∧ Blk w' tb #[.slice none 0 0, .bool true] 147 ∧ Chg w w' [] := by
  have HB : Hid (Tryd.prog.built 147 [(0, .slice none 0 0), (1, .bool true)] = some #[.slice none 0 0, .bool true]) := builtTape _ _ _
  have HC : Hid (∀ w, Calls Tryd.prog 69 #[.slice none 0 0] w fun e w' => e = .returned (.slice none 0 0) ∧ w' = w) := fun w => by
    have hq : ∀ W, (binOp .eql 78 (.slice none 0 0) (.slice none 0 0)).run Tryd.prog W = .ok (.bool true) W := fun W => Lib.run_eql_slice_nil_nil W 0 0 Tryd.underlying78
    go_enter Tryd.func69, Tryd.ntmps69
    go_wp2_with fail
    go_ret
    exact ⟨rfl, rfl⟩
  go_enter Tryd.func30, Tryd.ntmps30
  go_wp2_with fail
  refine (HC.out w).mono ?_
  rintro e w1 ⟨rfl, rfl⟩
  go_wp2_with (first
    | (refine wpList_build_c rfl 147 _ rfl #[.slice none 0 0, .bool true] (by go_simp; exact HB.out) ?_)
    | (with_reducible refine box_w rfl 147 _ rfl #[.slice none 0 0, .bool true] rfl ?_; intro tb w2 htb BT k2))
  go_ret
  exact ⟨tb, rfl, htb, BT, k2⟩
end Go.Proofs.YthpfdnkcepfbaaaDoor
