/- Joined: W18, W19, W25. -/
import Derived.Test.YtgjclegpnbjlkaaGreatDoorMwB
import Derived.Laws.StructEq
set_option linter.all false
namespace Go.Proofs.YtgjclegpnbjlkaaGreatDoor
set_option maxHeartbeats 4000000
set_option maxRecDepth 100000
open Go.RowKit
theorem party_ok (r n c g o a : Nat) (F : Nat → Nat) (b : Int) (s s' : ByteArray) (hk : a + 1 ≤ n) (hn : n ≤ c) (hn2 : c ≤ 9223372036854775807) (w : World) (h : Rd w r (.slice (some ⟨g, o, none⟩) n c) (a : Int) s b) (hB : Bs w g o n F) (hgr : ¬ g = r) :
   Calls Tryz.prog 100 #[.pointer (some ⟨r, 0, none⟩), .string s'] w fun e w' => e = .returned (.int .i64 ((nm F a 1 : Nat) : Int)) ∧ Rd w' r (.slice (some ⟨g, o, none⟩) n c) ((a : Int) + ((1 : Nat) : Int)) s' (a : Int) ∧ Chg w w' [r] := by
 have hx : nm F a 1 < 256 := nm_lt F a 1 (fun j hj => hB.bd _ (by omega))
 have ew : IntKind.i64.wrap ((nm F a 1 : Nat) : Int) = ((nm F a 1 : Nat) : Int) := by rw [IntKind.wrap_i64]; omega
 have HA : Hid (a + 1 ≤ n ∧ n ≤ c ∧ c ≤ 9223372036854775807) := ⟨hk, hn, hn2⟩
 have HB : Hid (Bs w g o n F) := hB
 have HG : Hid (¬ g = r) := hgr
 have q := begin_s r _ _ b s s' w h
 have HN : Hid (∀ w', Rd w' r (.slice (some ⟨g, o, none⟩) n c) (a : Int) s' (a : Int) → Bs w' g o n F → Calls Tryz.prog 91 #[.pointer (some ⟨r, 0, none⟩), .int .i64 1] w' fun e w'' => e = .returned (.int .u32 ((nm F a 1 : Nat) : Int)) ∧ Rd w'' r (.slice (some ⟨g, o, none⟩) n c) ((a : Int) + ((1 : Nat) : Int)) s' (a : Int) ∧ Chg w' w'' [r]) :=
   fun w' h1 h2 => number_ok r n c g o a 1 F _ s' (by omega) hk hn (by omega) hn2 w' h1 h2 hgr
 obtain ⟨x, hX⟩ : ∃ x, nm F a 1 = x := ⟨_, rfl⟩
 rw [hX] at hx ew HN ⊢
 clear hk hn hn2 h hB hgr hX hx
 go_enter Tryz.func100, Tryz.ntmps100
 go_wp2_with fail
 refine q.mono ?_
 rintro e w2 ⟨rfl, h2, k2⟩
 go_wp2_with fail
 refine (HN.out w2 h2 (HB.out.chg k2 (by simp; exact HG.out))).mono ?_
 rintro e w3 ⟨rfl, h3, k3⟩
 go_wp2_with fail
 go_ret
 exact ⟨rfl, h3, k2.trans1 k3⟩
theorem code_ok (r n c g o a : Nat) (F : Nat → Nat) (b : Int) (s : ByteArray) (hk : a + 2 ≤ n) (hn : n ≤ c) (hn2 : c ≤ 9223372036854775807) (w : World) (h : Rd w r (.slice (some ⟨g, o, none⟩) n c) (a : Int) s b) (hB : Bs w g o n F) (hgr : ¬ g = r) (h0 : 0 < nm F a 2) :
   Calls Tryz.prog 104 #[.pointer (some ⟨r, 0, none⟩)] w fun e w' => e = .returned (.int .i64 ((nm F a 2 : Nat) : Int)) ∧ Rd w' r (.slice (some ⟨g, o, none⟩) n c) ((a : Int) + ((2 : Nat) : Int)) sCode (a : Int) ∧ Chg w w' [r] := by
 have hx : nm F a 2 < 65536 := nm_lt F a 2 (fun j hj => hB.bd _ (by omega))
 have ew : IntKind.i64.wrap ((nm F a 2 : Nat) : Int) = ((nm F a 2 : Nat) : Int) := by rw [IntKind.wrap_i64]; omega
 have e0 : ¬ ((nm F a 2 : Nat) : Int) = 0 := by omega
 have HB : Hid (Bs w g o n F) := hB
 have HG : Hid (¬ g = r) := hgr
 have q := begin_s r _ _ b s sCode w h
 have HN : Hid (∀ w', Rd w' r (.slice (some ⟨g, o, none⟩) n c) (a : Int) sCode (a : Int) → Bs w' g o n F → Calls Tryz.prog 91 #[.pointer (some ⟨r, 0, none⟩), .int .i64 2] w' fun e w'' => e = .returned (.int .u32 ((nm F a 2 : Nat) : Int)) ∧ Rd w'' r (.slice (some ⟨g, o, none⟩) n c) ((a : Int) + ((2 : Nat) : Int)) sCode (a : Int) ∧ Chg w' w'' [r]) :=
   fun w' h1 h2 => number_ok r n c g o a 2 F _ sCode (by omega) hk hn (by omega) hn2 w' h1 h2 hgr
 obtain ⟨x, hX⟩ : ∃ x, nm F a 2 = x := ⟨_, rfl⟩
 rw [hX] at hx ew e0 HN ⊢
 clear hk hn hn2 h hB hgr hX hx h0
 go_enter Tryz.func104, Tryz.ntmps104
 go_wp2_with fail
 refine q.mono ?_
 rintro e w2 ⟨rfl, h2, k2⟩
 go_wp2_with fail
 refine (HN.out w2 h2 (HB.out.chg k2 (by simp; exact HG.out))).mono ?_
 rintro e w3 ⟨rfl, h3, k3⟩
 go_wp2_with fail
 go_ret
 exact ⟨rfl, h3, k2.trans1 k3⟩
def ms0 (k : Int) : Ms := { kind := k, ses := fun _ => 0, fr := 0, to := 0, id := 0, hid := fun _ => 0, bnd := fun _ => 0, list := .slice none 0 0, text := .slice none 0 0, bind := fun _ => 0, share := fun _ => 0, sig := fun _ => 0, code := 0 }
theorem zeroMsg : (Tryz.prog.info? 35).bind (·.zero) = some (.agg (msC (ms0 0))) := by kernel_rfl
theorem builtMsg (k : Int) : Tryz.prog.built 35 [(0, .int .i64 k)] = some (msC (ms0 k)) := by kernel_rfl
theorem ms_oneC (m : Ms) (h1 : m.list.oneCell' = true) (h2 : m.text.oneCell' = true) : (msC m).all (·.oneCell') = true := by
 apply all_oneCell_toArray
 intro v hv
 have hy : ∀ n f (v : Value), v ∈ yL n f → v.oneCell' = true := fun n f v hv => by
   unfold yL at hv
   simp only [List.mem_map] at hv
   obtain ⟨_, _, rfl⟩ := hv
   rfl
 unfold msL at hv
 simp only [List.mem_cons, List.mem_append, List.not_mem_nil, or_false] at hv
 rcases hv with rfl | hv | rfl | rfl | (rfl | hv | hv) | rfl | rfl | hv | hv | hv | rfl
 all_goals first | rfl | exact hy _ _ _ hv | exact h1 | exact h2
theorem ms_set_ses (m : Ms) (f : Nat → Nat) : setL (msC m) 1 (yL 32 f) = msC { m with ses := f } := by kernel_rfl
theorem ms_set_fr (m : Ms) (x : Int) : (msC m).setIfInBounds 33 (.int .i64 x) = msC { m with fr := x } := by kernel_rfl
theorem ms_set_to (m : Ms) (x : Int) : (msC m).setIfInBounds 34 (.int .i64 x) = msC { m with to := x } := by kernel_rfl
theorem ms_set_code (m : Ms) (x : Int) : (msC m).setIfInBounds 230 (.int .i64 x) = msC { m with code := x } := by kernel_rfl
end Go.Proofs.YtgjclegpnbjlkaaGreatDoor

set_option linter.all false
namespace Go.Proofs.YtgjclegpnbjlkaaGreatDoor
set_option maxHeartbeats 8000000
set_option maxRecDepth 100000
open Go.RowKit
theorem wpList_buildW {P : Program} {ops : Array Oper} {rest : List Oper} {o : Oper} {a : Act} {w : World} {Q : Exit → Act → World → Prop} (hg : o.guard = none) (t : TypeId) (parts : Array (Nat × Operand)) (ho : o.op = .build t parts)
   (cells : Array Value) (hb : P.built t (parts.map fun (i, x) => (i, a.eval x)).toList = some cells) (h : wpList P ops Q rest (a.put o.dst (.agg cells)) w) : wpList P ops Q (o :: rest) a w :=
 wpList_build hg t parts ho (by rw [hb]; rfl) (by rw [hb]; exact h)
theorem msInfoW : (Tryz.prog.info? 35).map (·.size) = some 231 := by kernel_rfl
theorem hashInfoW : (Tryz.prog.info? 24).map (·.size) = some 32 := by kernel_rfl
theorem store_ses {ops : Array Oper} {rest : List Oper} {op : Oper} {a : Act} {w : World} {Q : Exit → Act → World → Prop} (hgd : op.guard = none) (x y : Operand) (ho : op.op = .store 24 x y) (b : Nat) (m : Ms) (f : Nat → Nat) {T : TypeId}
   (hx : a.eval x = .pointer (some ⟨b, 1, none⟩)) (hy : a.eval y = .agg (yC 32 f)) (hB : Blk w b (msC m) T)
   (h : ∀ w', Blk w' b (msC { m with ses := f }) T → Chg w w' [b] → wpList Tryz.prog ops Q rest (a.put op.dst undef) w') : wpList Tryz.prog ops Q (op :: rest) a w :=
 wpList_store_mid hgd 24 x y ho b 1 (yC 32 f) hx hy (hB.there (by rw [yC_size, msC_size]; decide)) (by rw [yC_size]; exact hashInfoW) (yC_one 32 f)
   (h _ ((hB.setCells 1 (yL 32 f)).to (ms_set_ses m f)) ((Chg.refl w [b]).setCellsIn (by simp) 1 (yL 32 f)))
def rd5 (F : Nat → Nat) : Ms := { ms0 5 with ses := fun j => F (10 + j), fr := ((nm F 42 1 : Nat) : Int), to := ((nm F 43 1 : Nat) : Int), code := ((nm F 44 2 : Nat) : Int) }
def sFrm : ByteArray := ⟨#[102, 114, 111, 109]⟩
def sToo : ByteArray := ⟨#[116, 111]⟩
def sSess : ByteArray := ⟨#[115, 101, 115, 115, 105, 111, 110]⟩
theorem message_5 (r c g o : Nat) (F : Nat → Nat) (b : Int) (s : ByteArray) (hc : 46 ≤ c) (hc2 : c ≤ 9223372036854775807) (w : World) (h : Rd w r (.slice (some ⟨g, o, none⟩) 46 c) ((10 : Nat) : Int) s b) (hB : Bs w g o 46 F) (hgr : ¬ g = r) (h0 : 0 < nm F 44 2) :
   Calls Tryz.prog 86 #[.pointer (some ⟨r, 0, none⟩), .int .i64 5] w fun e w' => e = .returned (.agg (msC (rd5 F))) ∧ Chg w w' [r] := by
 have HR : Hid (Rd w r (.slice (some ⟨g, o, none⟩) 46 c) ((10 : Nat) : Int) s b) := h
 have HB : Hid (Bs w g o 46 F) := hB
 have HG : Hid (¬ g = r) := hgr
 have HL : Hid (r < w.heap.size) := Blk.lt h
 have HW : Hid (∀ w' b s, Rd w' r (.slice (some ⟨g, o, none⟩) 46 c) ((10 : Nat) : Int) s b → Bs w' g o 46 F → Calls Tryz.prog 99 #[.pointer (some ⟨r, 0, none⟩), .string sSess] w' fun e w'' => e = .returned (.agg (yC 32 (fun j => F (10 + j)))) ∧ Rd w'' r (.slice (some ⟨g, o, none⟩) 46 c) ((42 : Nat) : Int) sSess ((10 : Nat) : Int) ∧ Chg w' w'' [r]) :=
   fun w' b s h1 h2 => word_ok r 46 c g o 10 F b s sSess (by omega) hc hc2 w' h1 h2 hgr
 have HP1 : Hid (∀ w' b s, Rd w' r (.slice (some ⟨g, o, none⟩) 46 c) ((42 : Nat) : Int) s b → Bs w' g o 46 F → Calls Tryz.prog 100 #[.pointer (some ⟨r, 0, none⟩), .string sFrm] w' fun e w'' => e = .returned (.int .i64 ((nm F 42 1 : Nat) : Int)) ∧ Rd w'' r (.slice (some ⟨g, o, none⟩) 46 c) ((43 : Nat) : Int) sFrm ((42 : Nat) : Int) ∧ Chg w' w'' [r]) :=
   fun w' b s h1 h2 => party_ok r 46 c g o 42 F b s sFrm (by omega) hc hc2 w' h1 h2 hgr
 have HP2 : Hid (∀ w' b s, Rd w' r (.slice (some ⟨g, o, none⟩) 46 c) ((43 : Nat) : Int) s b → Bs w' g o 46 F → Calls Tryz.prog 100 #[.pointer (some ⟨r, 0, none⟩), .string sToo] w' fun e w'' => e = .returned (.int .i64 ((nm F 43 1 : Nat) : Int)) ∧ Rd w'' r (.slice (some ⟨g, o, none⟩) 46 c) ((44 : Nat) : Int) sToo ((43 : Nat) : Int) ∧ Chg w' w'' [r]) :=
   fun w' b s h1 h2 => party_ok r 46 c g o 43 F b s sToo (by omega) hc hc2 w' h1 h2 hgr
 have HC : Hid (∀ w' b s, Rd w' r (.slice (some ⟨g, o, none⟩) 46 c) ((44 : Nat) : Int) s b → Bs w' g o 46 F → Calls Tryz.prog 104 #[.pointer (some ⟨r, 0, none⟩)] w' fun e w'' => e = .returned (.int .i64 ((nm F 44 2 : Nat) : Int)) ∧ Rd w'' r (.slice (some ⟨g, o, none⟩) 46 c) ((46 : Nat) : Int) sCode ((44 : Nat) : Int) ∧ Chg w' w'' [r]) :=
   fun w' b s h1 h2 => code_ok r 46 c g o 44 F b s (by omega) hc hc2 w' h1 h2 hgr h0
 have HM : Hid (∀ (U : Nat → Nat) (x1 x2 x3 : Int), U = (fun j => F (10 + j)) → x1 = ((nm F 42 1 : Nat) : Int) → x2 = ((nm F 43 1 : Nat) : Int) → x3 = ((nm F 44 2 : Nat) : Int) → ({ ({ ({ ({ ms0 5 with ses := U } : Ms) with fr := x1 } : Ms) with to := x2 } : Ms) with code := x3 } : Ms) = rd5 F) := by
   intro U x1 x2 x3 e1 e2 e3 e4
   subst e1 e2 e3 e4
   rfl
 obtain ⟨U, hU⟩ : ∃ U, U = (fun j => F (10 + j)) := ⟨_, rfl⟩
 obtain ⟨x1, hx1⟩ : ∃ x, x = ((nm F 42 1 : Nat) : Int) := ⟨_, rfl⟩
 obtain ⟨x2, hx2⟩ : ∃ x, x = ((nm F 43 1 : Nat) : Int) := ⟨_, rfl⟩
 obtain ⟨x3, hx3⟩ : ∃ x, x = ((nm F 44 2 : Nat) : Int) := ⟨_, rfl⟩
 have HM1 := HM.out U x1 x2 x3 hU hx1 hx2 hx3
 rw [← hU] at HW
 rw [← hx1] at HP1
 rw [← hx2] at HP2
 rw [← hx3] at HC
 rw [← HM1]
 clear hc hc2 h hB hgr h0 HM HM1 hU hx1 hx2 hx3
 go_enter Tryz.func86, Tryz.ntmps86
 go_wp2_with (first
   | (refine store_w BM rfl 35 _ _ (msC (ms0 5)) rfl rfl rfl (by rw [msC_size]; exact msInfoW) (by rw [msC_size, msC_size]) (ms_oneC _ rfl rfl) ?_; intro w3 BM3 k3)
   | (have _h := BA; with_reducible refine alloc_w rfl 35 rfl (.agg (msC (ms0 0))) zeroMsg (msC (ms0 0)) rfl ?_; intro mb w2 hmb BM k2)
   | (with_reducible refine alloc_w rfl 35 rfl (.agg (msC (ms0 0))) zeroMsg (msC (ms0 0)) rfl ?_; intro ab w1 hab BA k1)
   | (with_reducible refine wpList_buildW ?_ 35 _ ?_ (msC (ms0 5)) ?_ ?_
      · rfl
      · rfl
      · exact builtMsg 5
      skip))
 have HS : Hid (r < ab ∧ r < mb ∧ ab < mb ∧ w.heap.size ≤ ab ∧ w.heap.size ≤ mb) := by have := HL.out; have := BA.lt; have := k1.size; exact ⟨by omega, by omega, by omega, by omega, by omega⟩
 have BA3 := (BA.chg k2 (by simp)).chg k3 (by have := HS.out; simp; omega)
 have C3 : Chg w w3 [r] := (((k1.trans1 k2).wide (l := [r])).trans k3 (fun i hi => by simp at hi; subst hi; exact Or.inr HS.out.2.2.2.2))
 have R3 := ((HR.out.chg k1 (by simp)).chg k2 (by simp)).chg k3 (by have := HS.out; simp; omega)
 have B3 := ((HB.out.chg k1 (by simp)).chg k2 (by simp)).chg k3 (by have := HS.out; have := HB.out.lt; simp; omega)
 clear BA BM k1 k2 k3 hab hmb
 refine (HW.out w3 _ _ R3 B3).mono ?_
 rintro e w4 ⟨rfl, R4, k4⟩
 have BM4 := BM3.chg k4 (by have := HS.out; simp; omega)
 have BA4 := BA3.chg k4 (by have := HS.out; simp; omega)
 have B4 := B3.chg k4 (by simp; exact HG.out)
 have C4 := C3.trans1 k4
 clear BM3 BA3 B3 C3 k4 R3
 go_wp2_with (first
   | (with_reducible refine store_ses ?_ (.tmp 10) (.tmp 9) ?_ mb (ms0 5) U ?_ ?_ BM4 ?_
      · rfl
      · rfl
      · rfl
      · rfl
      intro w5 BM5 k5))
 have BA5 := BA4.chg k5 (by have := HS.out; simp; omega)
 have R5 := R4.chg k5 (by have := HS.out; simp; omega)
 have B5 := B4.chg k5 (by have := HS.out; have := HB.out.lt; simp; omega)
 have C5 := C4.trans k5 (fun i hi => by simp at hi; subst hi; exact Or.inr HS.out.2.2.2.2)
 clear BM4 BA4 R4 B4 C4 k5
 refine (HP1.out w5 _ _ R5 B5).mono ?_
 rintro e w6 ⟨rfl, R6, k6⟩
 have BM6 := BM5.chg k6 (by have := HS.out; simp; omega)
 have BA6 := BA5.chg k6 (by have := HS.out; simp; omega)
 have B6 := B5.chg k6 (by simp; exact HG.out)
 have C6 := C5.trans1 k6
 have ff := BM6.frozen 33
 have cf := ms_at BM6 33 _ (ms_fr _)
 have BM7 := (BM6.setCell 33 (.int .i64 x1)).to (ms_set_fr _ x1)
 have BA7 := BA6.setOther (show ab ≠ mb by have := HS.out; omega) 33 (.int .i64 x1)
 have k7 : Chg w6 (w6.setCell ⟨mb, 33, none⟩ (.int .i64 x1)) [mb] := (Chg.refl w6 [mb]).setIn (by simp) 33 _
 have R7 := R6.chg k7 (by have := HS.out; simp; omega)
 have B7 := B6.chg k7 (by have := HS.out; have := HB.out.lt; simp; omega)
 have C7 := C6.trans k7 (fun i hi => by simp at hi; subst hi; exact Or.inr HS.out.2.2.2.2)
 clear BM5 BA5 B5 C5 k6 R5 BM6 BA6 B6 C6 R6 k7
 go_wp2_with fail
 generalize (w6.setCell ⟨mb, 33, none⟩ (.int .i64 x1)) = w7 at *
 clear ff cf
 refine (HP2.out w7 _ _ R7 B7).mono ?_
 rintro e w8 ⟨rfl, R8, k8⟩
 have BM8 := BM7.chg k8 (by have := HS.out; simp; omega)
 have BA8 := BA7.chg k8 (by have := HS.out; simp; omega)
 have B8 := B7.chg k8 (by simp; exact HG.out)
 have C8 := C7.trans1 k8
 have ff := BM8.frozen 34
 have cf := ms_at BM8 34 _ (ms_to _)
 have BM9 := (BM8.setCell 34 (.int .i64 x2)).to (ms_set_to _ x2)
 have BA9 := BA8.setOther (show ab ≠ mb by have := HS.out; omega) 34 (.int .i64 x2)
 have k9 : Chg w8 (w8.setCell ⟨mb, 34, none⟩ (.int .i64 x2)) [mb] := (Chg.refl w8 [mb]).setIn (by simp) 34 _
 have R9 := R8.chg k9 (by have := HS.out; simp; omega)
 have B9 := B8.chg k9 (by have := HS.out; have := HB.out.lt; simp; omega)
 have C9 := C8.trans k9 (fun i hi => by simp at hi; subst hi; exact Or.inr HS.out.2.2.2.2)
 clear BM7 BA7 B7 C7 k8 R7 BM8 BA8 B8 C8 R8 k9
 go_wp2_with fail
 generalize (w8.setCell ⟨mb, 34, none⟩ (.int .i64 x2)) = w9 at *
 clear ff cf
 refine (HC.out w9 _ _ R9 B9).mono ?_
 rintro e w10 ⟨rfl, R10, k10⟩
 have BM10 := BM9.chg k10 (by have := HS.out; simp; omega)
 have BA10 := BA9.chg k10 (by have := HS.out; simp; omega)
 have C10 := C9.trans1 k10
 have ff := BM10.frozen 230
 have cf := ms_at BM10 230 _ (ms_code _)
 have BM11 := (BM10.setCell 230 (.int .i64 x3)).to (ms_set_code _ x3)
 have BA11 := BA10.setOther (show ab ≠ mb by have := HS.out; omega) 230 (.int .i64 x3)
 have k11 : Chg w10 (w10.setCell ⟨mb, 230, none⟩ (.int .i64 x3)) [mb] := (Chg.refl w10 [mb]).setIn (by simp) 230 _
 have R11 := R10.chg k11 (by have := HS.out; simp; omega)
 have C11 := C10.trans k11 (fun i hi => by simp at hi; subst hi; exact Or.inr HS.out.2.2.2.2)
 clear BM9 BA9 B9 C9 k10 R9 BM10 BA10 C10 R10 k11
 go_wp2_with fail
 generalize (w10.setCell ⟨mb, 230, none⟩ (.int .i64 x3)) = w11 at *
 clear ff cf
 refine (end_ok r 46 c _ _ _ w11 R11).mono ?_
 rintro e w12 ⟨rfl, _, k12⟩
 have BM12 := BM11.chg k12 (by have := HS.out; simp; omega)
 have BA12 := BA11.chg k12 (by have := HS.out; simp; omega)
 have C12 := C11.trans1 k12
 clear BM11 BA11 R11 C11 k12
 obtain ⟨M, hM⟩ : ∃ M, M = ({ ({ ({ ({ ms0 5 with ses := U } : Ms) with fr := x1 } : Ms) with to := x2 } : Ms) with code := x3 } : Ms) := ⟨_, rfl⟩
 have hM1 : M.list.oneCell' = true ∧ M.text.oneCell' = true := by rw [hM]; exact ⟨rfl, rfl⟩
 have BM13 : Blk w12 mb (msC M) 35 := by rw [hM]; exact BM12
 have HMM : Hid (M = ({ ({ ({ ({ ms0 5 with ses := U } : Ms) with fr := x1 } : Ms) with to := x2 } : Ms) with code := x3 } : Ms)) := hM
 clear hM BM12
 go_wp2_with (first
   | (refine wpList_load_row rfl 35 _ rfl mb rfl 35 _ (0, 0) _ BM13 Tryz.underlying35 rfl (by rw [msC_size]; exact msInfoW) ?_)
   | (refine store_w BA12 rfl 35 _ _ (msC M) rfl rfl rfl (by rw [msC_size]; exact msInfoW) (by rw [msC_size, msC_size]) (ms_oneC _ hM1.1 hM1.2) ?_; intro w13 BA13 k13))
 exact bodyPost_ret (results_cell_row Tryz.results86 _ _ ab 35 (msC M) (0, 0) _ rfl BA13 Tryz.underlying35 rfl (by rw [msC_size]; exact msInfoW)) rfl ⟨by rw [HMM.out], C12.trans k13 (fun i hi => by simp at hi; subst hi; exact Or.inr HS.out.2.2.2.1)⟩
end Go.Proofs.YtgjclegpnbjlkaaGreatDoor

set_option linter.all false
namespace Go.Proofs.YtgjclegpnbjlkaaGreatDoor
set_option maxHeartbeats 4000000
set_option maxRecDepth 100000
open Go.RowKit
def m5 : Ms := { ms0 5 with fr := 2, code := 5 }
theorem load_gm {ops : Array Oper} {rest : List Oper} {op : Oper} {a : Act} {w : World} {Q : Exit → Act → World → Prop} (hw : Region.wanted op (yielded ops a.tmps) = true) (ty : TypeId) (x : Operand) (ho : op.op = .load ty x) (b o : Nat) (hx : a.eval x = .pointer (some ⟨b, o, none⟩))
   (cells : List Value) (hr : w.rangeAt b o cells) {d : TypeDesc} (hu : Tryz.prog.underlying ty = some d) (hd : d.isRow = true) (hi : (Tryz.prog.info? ty).map (·.size) = some cells.length)
   (h : wpList Tryz.prog ops Q rest (a.put op.dst (.agg cells.toArray)) w) : wpList Tryz.prog ops Q (op :: rest) a w :=
 wpList_step fun K hK => by rw [if_pos hw]; exact wp_load_mid ty x ho b o hx cells _ hr hu hd hi (hK _ _ h)
def z0L (n : Nat) : List Value := yL n (fun _ => 0)
theorem eqHashZ (w : World) : (Op.equalIn 10000 24 (.agg (z0L 32).toArray) (.agg (z0L 32).toArray)).run Tryz.prog w = .ok true w := by kernel_rfl
theorem eqScZ (w : World) : (Op.equalIn 10000 30 (.agg (z0L 32).toArray) (.agg (z0L 32).toArray)).run Tryz.prog w = .ok true w := by kernel_rfl
theorem eqSigZ (w : World) : (Op.equalIn 10000 32 (.agg (z0L 64).toArray) (.agg (z0L 64).toArray)).run Tryz.prog w = .ok true w := by kernel_rfl
def cmL0 : List Value := .int .i64 0 :: (yL 32 (fun _ => 0) ++ yL 32 (fun _ => 0))
theorem eqCmtZ (w : World) : (Op.equalIn 10000 27 (.agg cmL0.toArray) (.agg cmL0.toArray)).run Tryz.prog w = .ok true w := by kernel_rfl
theorem cmtGuard : Tryz.prog.eqGuardType Tryz.prog.depth 27 = false := by kernel_rfl
theorem cmtInfo : (Tryz.prog.info? 27).map (·.size) = some 65 := by kernel_rfl
theorem scInfoW : (Tryz.prog.info? 30).map (·.size) = some 32 := by kernel_rfl
theorem sigInfoW : (Tryz.prog.info? 32).map (·.size) = some 64 := by kernel_rfl
theorem SameCommitments_nil (w : World) : Calls Tryz.prog 52 #[.slice none 0 0, .slice none 0 0] w fun e w' => e = .returned (.bool true) ∧ Chg w w' [] := by
 have cc := Chg.refl w []
 go_enter Tryz.func52, Tryz.ntmps52
 go_wp2_with fail
 go_loopw [5] (fun t wr => t = .int .i64 0 ∧ Chg w wr []) (fun _ _ => 0)
 case atStart => exact ⟨rfl, cc⟩
 case round =>
   clear cc
   obtain ⟨rfl, cc⟩ := hrel
   go_wp2_with fail
   go_ret
   exact ⟨rfl, cc⟩
theorem SameBytes_nil (w : World) : Calls Tryz.prog 10 #[.slice none 0 0, .slice none 0 0] w fun e w' => e = .returned (.bool true) ∧ Chg w w' [] := by
 have cc := Chg.refl w []
 go_enter Tryz.func10, Tryz.ntmps10
 go_wp2_with fail
 go_loopw [5] (fun t wr => t = .int .i64 0 ∧ Chg w wr []) (fun _ _ => 0)
 case atStart => exact ⟨rfl, cc⟩
 case round =>
   clear cc
   obtain ⟨rfl, cc⟩ := hrel
   go_wp2_with fail
   go_ret
   exact ⟨rfl, cc⟩
end Go.Proofs.YtgjclegpnbjlkaaGreatDoor
