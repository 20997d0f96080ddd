/- wire.Decode. -/
import Derived.Test.YtgfeopingompdaaGreatDoorW21
import Derived.Defers
import Derived.Recover
set_option linter.unusedVariables false
set_option linter.unusedSimpArgs false
set_option linter.unnecessarySimpa false
namespace Go.Proofs.YtgfeopingompdaaGreatDoor
open Go.RowKit

set_option maxHeartbeats 4000000 in
set_option maxRecDepth 100000 in
theorem caught_nil (w : World) : Calls Tryz.prog 62 #[.nilIface] w fun e w' => e = .returned .nilIface ∧ w' = w := by
  go_enter Tryz.func62, Tryz.ntmps62
  go_wp2_with fail
  go_ret
  exact ⟨rfl, rfl⟩
set_option maxHeartbeats 4000000 in
set_option maxRecDepth 100000 in
theorem flt_is (p : Value) (xT : TypeId) (w : World) : (Instr.typeAssert (.iface 108 p) xT 108 true).run Tryz.prog w = .ok (.tuple #[p, .bool true]) w := by kernel_rfl
set_option maxHeartbeats 4000000 in
set_option maxRecDepth 100000 in
theorem caught_flt (p : Value) (w : World) : Calls Tryz.prog 62 #[.iface 108 p] w fun e w' => e = .returned (.iface 108 p) ∧ w' = w := by
  have hta := flt_is p
  go_enter Tryz.func62, Tryz.ntmps62
  go_wp2_with fail
  go_ret
  exact ⟨rfl, rfl⟩
theorem decode_idle (p : Addr) (w : World) (hc : w.cell? p = some .nilIface) (hz : w.frozen? p = false) : CallsD Tryz.prog 61 #[.pointer (some p)] .returning w fun e u' w' => e = .returned (.tuple #[]) ∧ u' = .returning ∧ w' = w.setCell p .nilIface := by
  refine callsD_of_wpS Tryz.func61 rfl fun c₀ cs hu => ?_
  apply wpS_region
  simp [wpOpsS, go_sem, recoverD, hu, Tryz.ntmps61, Exit.thenS]
  refine (caught_nil w).mono ?_
  rintro e w' ⟨rfl, rfl⟩
  cases c₀
  simp_all [go_sem, storeCells, bodyPostS, results, Tryz.results61, Exit.thenS]
theorem decode_caught (p : Addr) (v : Value) (pv : Value) (older : List PanicEntry) (w : World) (hc : w.cell? p = some v) (hz : w.frozen? p = false) : CallsD Tryz.prog 61 #[.pointer (some p)] (.panicking ({ v := .iface 108 pv, recovered := false } :: older)) w fun e u' w' => e = .returned (.tuple #[]) ∧ u' = .panicking ({ v := .iface 108 pv, recovered := true } :: older) ∧ w' = w.setCell p (.iface 108 pv) := by
  refine callsD_of_wpS Tryz.func61 rfl fun c₀ cs hu => ?_
  apply wpS_region
  simp [wpOpsS, go_sem, recoverD, hu, Tryz.ntmps61, Exit.thenS]
  refine (caught_flt pv w).mono ?_
  rintro e w' ⟨rfl, rfl⟩
  cases c₀
  simp_all [go_sem, storeCells, bodyPostS, results, Tryz.results61, Exit.thenS]
theorem results_ccW {P : Program} {fn : Func} {p q : Tmp} {ty te : TypeId} (h : fn.results = #[.cell p ty, .cell q te]) (tmps : Array Value) (w : World) (g : Nat) (t : TypeId) (cs : Array Value) (d : TypeDesc) (eb : Nat) (v : Value)
    (hp : tmps.getD p undef = .pointer (some ⟨g, 0, none⟩)) (hq : tmps.getD q undef = .pointer (some ⟨eb, 0, none⟩)) (hg : Blk w g cs t)
    (hu : P.underlying ty = some d) (hd : (match d with | .struct _ | .array _ _ => true | _ => false) = true) (hi : (P.info? ty).map (·.size) = some cs.size) (hl : (loadVar te ⟨eb, 0, none⟩).run P w = .ok v w) :
    (results fn tmps).run P w = .ok (.tuple #[.agg cs, v]) w := by
  have hp' : tmps[p]?.getD undef = .pointer (some ⟨g, 0, none⟩) := by simpa using hp
  have hq' : tmps[q]?.getD undef = .pointer (some ⟨eb, 0, none⟩) := by simpa using hq
  simp [results, h, hp', hq', asAddr, run_loadVar_row w g t ty cs (0, 0) d hg hu hd hi, hl]
theorem load_err {w : World} {eb : Nat} {v : Value} (B : Blk w eb #[v] 54) : (loadVar 54 ⟨eb, 0, none⟩).run Tryz.prog w = .ok v w := by
  have c := B.cell 0
  simp [loadVar, Tryz.underlying54, go_sem] at *
  simp [c]
theorem zeroErr : (Tryz.prog.info? 54).bind (·.zero) = some .nilIface := by kernel_rfl
set_option maxHeartbeats 4000000 in
set_option maxRecDepth 100000 in
theorem Decode_ok (v : Value) (M : Ms) (hM : M.list.oneCell' = true ∧ M.text.oneCell' = true) (w : World) (hR : ∀ W, Chg w W [] → Calls Tryz.prog 63 #[v] W fun e w' => e = .returned (.agg (msC M)) ∧ Chg W w' []) :
    Calls Tryz.prog 16 #[v] w fun e w' => e = .returned (.tuple #[.agg (msC M), .nilIface]) ∧ Chg w w' [] := by
  have HR : Hid (∀ W, Chg w W [] → Calls Tryz.prog 63 #[v] W fun e w' => e = .returned (.agg (msC M)) ∧ Chg W w' []) := hR
  have HM : Hid (M.list.oneCell' = true ∧ M.text.oneCell' = true) := hM
  have hmf : ∀ (fn : Fn) (first cap : Array Value) (w : World), (Instr.makeFunc fn first cap).run Tryz.prog w = .ok (.func fn first cap) w := fun _ _ _ _ => rfl
  clear hR hM
  go_enter_defers Tryz.func16, Tryz.ntmps16
  go_wp2_with (first
    | (have _h := BR; refine alloc_w rfl 54 rfl .nilIface zeroErr #[.nilIface] rfl ?_; intro eb w2 heb BE k2)
    | (with_reducible refine alloc_w rfl 35 rfl (.agg (msC (ms0 0))) zeroMsg (msC (ms0 0)) rfl ?_; intro rb w1 hrb BR k1))
  have K2 := k1.trans1 k2
  have HS : Hid (w.heap.size ≤ rb ∧ rb < eb ∧ w.heap.size ≤ eb) := ⟨hrb, Nat.lt_of_lt_of_le BR.lt heb, Nat.le_trans k1.size heb⟩
  have BR2 := BR.chg k2 (by simp)
  clear BR k1 k2 hrb heb
  refine (HR.out w2 K2).mono ?_
  rintro e w3 ⟨rfl, k3⟩
  have BR3 := BR2.chg k3 (by simp)
  have HBE : Hid (Blk w3 eb #[.nilIface] 54) := BE.chg k3 (by simp)
  have C3 : Chg w w3 [] := K2.trans1 k3
  clear BR2 BE k3 K2
  go_wp2_with (refine store_w BR3 rfl 35 _ _ (msC M) rfl rfl rfl (by rw [msC_size]; exact msInfoV) (by rw [msC_size, msC_size]) (ms_oneC _ HM.out.1 HM.out.2) ?_; intro w4 BR4 k4; have BE4 := HBE.out.chg k4 (by have := HS.out; simp; omega); have ce := BE4.cell 0; have fe := BE4.frozen 0)
  have BR5 := BR4.setOther (show rb ≠ eb by have := HS.out; omega) 0 .nilIface
  have BE5 : Blk (w4.setCell ⟨eb, 0, none⟩ .nilIface) eb #[.nilIface] 54 := BE4.setCell 0 _
  have C5 : Chg w (w4.setCell ⟨eb, 0, none⟩ .nilIface) [] := (C3.new k4 HS.out.1).setNew HS.out.2.2 0 _
  refine leaves_cons (f := 61) (args := #[.pointer (some ⟨eb, 0, none⟩)]) (by simp) (by simp [go_sem]) ?_
  refine (decode_idle ⟨eb, 0, none⟩ _ (BE5.cell 0) (BE5.frozen 0)).mono ?_
  rintro e u' w'' ⟨rfl, rfl, rfl⟩
  have BR6 := BR5.setOther (show rb ≠ eb by have := HS.out; omega) 0 .nilIface
  have BE6 : Blk ((w4.setCell ⟨eb, 0, none⟩ .nilIface).setCell ⟨eb, 0, none⟩ .nilIface) eb #[.nilIface] 54 := BE5.setCell 0 _
  exact ⟨_, results_ccW Tryz.results16 _ _ rb 35 (msC M) _ eb .nilIface rfl rfl BR6 Tryz.underlying35 rfl (by rw [msC_size]; exact msInfoV) (load_err BE6), rfl, C5.setNew HS.out.2.2 0 _⟩
set_option maxHeartbeats 4000000 in
set_option maxRecDepth 100000 in
theorem Decode_gu (v : Value) (s : ByteArray) (a y : Int) (w : World) (hR : ∀ W, Chg w W [] → Calls Tryz.prog 63 #[v] W fun e w' => Gu W.heap.size s a y e w' ∧ Chg W w' []) :
    Calls Tryz.prog 16 #[v] w fun e w' => ∃ fv, e = .returned (.tuple #[.agg (msC (ms0 0)), fv]) ∧ Ft w' w.heap.size fv s a y ∧ Chg w w' [] := by
  have HR : Hid (∀ W, Chg w W [] → Calls Tryz.prog 63 #[v] W fun e w' => Gu W.heap.size s a y e w' ∧ Chg W w' []) := hR
  have hmf : ∀ (fn : Fn) (first cap : Array Value) (w : World), (Instr.makeFunc fn first cap).run Tryz.prog w = .ok (.func fn first cap) w := fun _ _ _ _ => rfl
  clear hR
  go_enter_defers Tryz.func16, Tryz.ntmps16
  go_wp2_with (first
    | (have _h := BR; refine alloc_w rfl 54 rfl .nilIface zeroErr #[.nilIface] rfl ?_; intro eb w2 heb BE k2)
    | (with_reducible refine alloc_w rfl 35 rfl (.agg (msC (ms0 0))) zeroMsg (msC (ms0 0)) rfl ?_; intro rb w1 hrb BR k1))
  have K2 := k1.trans1 k2
  have HS : Hid (w.heap.size ≤ rb ∧ rb < eb ∧ w.heap.size ≤ eb ∧ eb < w2.heap.size) := ⟨hrb, Nat.lt_of_lt_of_le BR.lt heb, Nat.le_trans k1.size heb, BE.lt⟩
  have BR2 := BR.chg k2 (by simp)
  clear BR k1 k2 hrb heb
  refine (HR.out w2 K2).mono ?_
  rintro e w3 ⟨⟨pv, rfl, g, rfl, hg, BF⟩, k3⟩
  have BR3 := BR2.chg k3 (by simp)
  have BE3 := BE.chg k3 (by simp)
  have C3 : Chg w w3 [] := K2.trans1 k3
  refine leaves_cons (f := 61) (args := #[.pointer (some ⟨eb, 0, none⟩)]) (by simp) (by simp [go_sem]) ?_
  refine (decode_caught ⟨eb, 0, none⟩ .nilIface (.pointer (some ⟨g, 0, none⟩)) [] _ (BE3.cell 0) (BE3.frozen 0)).mono ?_
  rintro e u' w'' ⟨rfl, rfl, rfl⟩
  have BR6 := BR3.setOther (show rb ≠ eb by have := HS.out; omega) 0 (.iface 108 (.pointer (some ⟨g, 0, none⟩)))
  have BE6 : Blk (w3.setCell ⟨eb, 0, none⟩ (.iface 108 (.pointer (some ⟨g, 0, none⟩)))) eb #[.iface 108 (.pointer (some ⟨g, 0, none⟩))] 54 := BE3.setCell 0 _
  have BF6 := BF.setOther (show g ≠ eb by have := HS.out; omega) 0 (.iface 108 (.pointer (some ⟨g, 0, none⟩)))
  exact ⟨_, results_ccW Tryz.results16 _ _ rb 35 (msC (ms0 0)) _ eb _ rfl rfl BR6 Tryz.underlying35 rfl (by rw [msC_size]; exact msInfoV) (load_err BE6), ⟨_, rfl, ⟨g, rfl, by have := K2.size; omega, BF6⟩, C3.setNew HS.out.2.2.1 0 _⟩⟩
end Go.Proofs.YtgfeopingompdaaGreatDoor
