/- the law's own example: works. -/
import Derived.Test.YtnopkojpgemldaaSeNm
import Derived.Lib.SlBytesConst
import Derived.Great.BuildSlice
set_option linter.unusedVariables false
set_option linter.unusedSimpArgs false
set_option linter.unnecessarySimpa false
namespace Go.Proofs.Ytnopkojpgemldaa
open Go.RowKit

theorem zeroKey : (Try.prog.info? 23).bind (·.zero) = some (.agg (yC 32 z0)) := by kernel_rfl
theorem zeroNon : (Try.prog.info? 25).bind (·.zero) = some (.agg (yC 12 z0)) := by kernel_rfl
/-- []byte of a constant: the conversion of a literal's row to its own type. -/
theorem conv_w {w : World} {ops : Array Oper} {rest : List Oper} {o : Oper} {a : Act} {Q : Exit → Act → World → Prop} (hgd : o.guard = none) (x : Operand) (ho : o.op = .convert 26 26 x) (g n c : Nat) (hx : a.eval x = .slice (some ⟨g, 0, none⟩) n c) (N : Nat) (f : Nat → Nat) (hg : Blk w g (yC N f) 5)
    (h : ∀ w', (∀ i, w'.cell? ⟨g, i, none⟩ = w.cell? ⟨g, i, none⟩) → g < w'.heap.size → Chg w w' [g] → wpList Try.prog ops Q rest (a.put o.dst (.slice (some ⟨g, 0, none⟩) n c)) w') : wpList Try.prog ops Q (o :: rest) a w := by
  refine wpList_plain hgd fun K hK => ?_
  have hb : w.heap[g]? = some (.cells (yC N f) 5 (0, 0)) := hg
  have hsh : w.shape? g = some (5, (yC N f).size) := by
    unfold World.shape?
    rw [hb]
  have hrun : (convert 26 26 (.slice (some ⟨g, 0, none⟩) n c)).run Try.prog w = .ok (.slice (some ⟨g, 0, none⟩) n c) (w.freeze ⟨g, (yC N f).size, none⟩ 1) := by
    simp [convert, run_underlying Try.underlying26, run_underlying Try.underlying5, markStringish, hsh]
  have hlt : g < w.heap.size := hg.lt
  unfold Oper.wp execOp
  simp only [ho, hx, Sem.run_bind, hrun, Sem.run_pure, Result.andThen_ok]
  refine hK _ _ (h _ (fun i => ?_) ?_ ?_)
  · unfold World.freeze
    rw [if_neg (by decide)]
    simp [World.cell?, Array.getElem?_modify, hb]
  · unfold World.freeze
    rw [if_neg (by decide)]
    simpa using hlt
  · unfold World.freeze
    rw [if_neg (by decide)]
    refine ⟨rfl, rfl, rfl, by simp, fun k hk hl => ?_⟩
    have hne : ¬ g = k := fun e => hl (by simp [e])
    simp [Array.getElem?_modify, hne]
theorem bsl_1 {w : World} {ops : Array Oper} {rest : List Oper} {op : Oper} {a : Act} {Q : Exit → Act → World → Prop} (hgd : op.guard = none) (c : Nat) (ho : op.op = .buildSlice 26 1 #[(0, .const (.int .u8 (c : Int)))])
    (h : ∀ g w', w.heap.size ≤ g → Blk w' g (yC 1 (fun _ => c)) 5 → Chg w w' [] → wpList Try.prog ops Q rest (a.put op.dst (.slice (some ⟨g, 0, none⟩) 1 1)) w') : wpList Try.prog ops Q (op :: rest) a w := by
  obtain ⟨i, hi, hz, h1, h2⟩ := u8Row
  exact bsl_w hgd 26 5 1 _ ho [(0, .int .u8 (c : Int))] (by kernel_rfl) (yC 1 (fun _ => c)) i (.int .u8 0) Try.underlying26 hi hz 1 h1 (by decide) (by decide) (by kernel_rfl) h
theorem bsl_txt {w : World} {ops : Array Oper} {rest : List Oper} {op : Oper} {a : Act} {Q : Exit → Act → World → Prop} (hgd : op.guard = none) (ho : op.op = .buildSlice 26 4 #[(0, .const (.int .u8 116)), (1, .const (.int .u8 101)), (2, .const (.int .u8 120)), (3, .const (.int .u8 116))])
    (h : ∀ g w', w.heap.size ≤ g → Blk w' g (yC 4 txt) 5 → Chg w w' [] → wpList Try.prog ops Q rest (a.put op.dst (.slice (some ⟨g, 0, none⟩) 4 4)) w') : wpList Try.prog ops Q (op :: rest) a w := by
  obtain ⟨i, hi, hz, h1, h2⟩ := u8Row
  exact bsl_w hgd 26 5 4 _ ho [(0, .int .u8 116), (1, .int .u8 101), (2, .int .u8 120), (3, .int .u8 116)] (by kernel_rfl) (yC 4 txt) i (.int .u8 0) Try.underlying26 hi hz 1 h1 (by decide) (by decide) (by kernel_rfl) h
theorem Bs.of {w w' : World} {g N : Nat} {f : Nat → Nat} {T : TypeId} (hb : Blk w g (yC N f) T) (hf : ∀ i, i < N → f i < 256) (hc : ∀ i, w'.cell? ⟨g, i, none⟩ = w.cell? ⟨g, i, none⟩) (hl : g < w'.heap.size) : Bs w' g 0 N f :=
  ⟨hl, hf, fun i hi => by rw [Nat.zero_add, hc, hb.cell, yC_get _ _ _ hi]⟩
theorem Bs.sz {w : World} {g o n : Nat} {f : Nat → Nat} (h : Bs w g o n f) (c : Nat) (hc : n ≤ c) (hc2 : c ≤ 9223372036854775807) : Sz w (.slice (some ⟨g, o, none⟩) n c) n f := ⟨_, c, rfl, hc, hc2, fun _ => ⟨g, o, rfl, h⟩⟩
theorem num_s (e : Int) (w : World) : Calls Try.prog 26 #[.int .i64 e] w fun x w' => x = .returned (.int .i64 e) ∧ w' = w := by
  go_enter Try.func26, Try.ntmps26
  go_wp2
  go_ret
  exact ⟨rfl, rfl⟩
theorem txt_lt (i : Nat) (hi : i < 4) : txt i < 256 := by
  have : i = 0 ∨ i = 1 ∨ i = 2 ∨ i = 3 := by omega
  rcases this with rfl | rfl | rfl | rfl <;> decide
set_option maxHeartbeats 8000000 in
set_option maxRecDepth 100000 in
theorem works_s (w : World) : Calls Try.prog 9 #[] w fun e w' => e = .returned (.bool true) ∧ Chg w w' [] := by
  have HZ : Hid ((∀ i, i < 32 → z0 i < 256) ∧ ∀ i, i < 12 → z0 i < 256) := ⟨fun _ _ => by unfold z0; omega, fun _ _ => by unfold z0; omega⟩
  obtain ⟨Z, hZ⟩ : ∃ Z, sealB z0 z0 1 (fun _ => 97) 4 txt = Z := ⟨_, rfl⟩
  have HT1 : Hid (tagged z0 z0 1 (fun _ => 97) 4 Z = true) := by rw [← hZ]; exact tagged_seal z0 z0 1 (fun _ => 97) 4 txt
  have HT2 : Hid (tagged z0 z0 1 (fun _ => 98) 4 Z = false) := by rw [← hZ]; exact tagged_b
  have HBK : Hid (∀ i, i < 4 → xo Z (ks z0 1 z0) i = txt i) := by rw [← hZ]; exact seal_back z0 z0 1 (fun _ => 97) 4 txt
  have HZL : Hid (∀ i, i < 20 → Z i < 256) := by rw [← hZ]; exact seal_lt txt_lt
  have HSE : Hid (∀ w v0 v1, Sz w v0 1 (fun _ => 97) → Sz w v1 4 txt → Calls Try.prog 10 #[.agg (yC 32 z0), .agg (yC 12 z0), v0, v1] w fun e w' => AnsB w 20 Z e w') := fun w v0 v1 h0 h1 => by
    have q := Seal_s z0 z0 HZ.out.1 HZ.out.2 v0 1 (fun _ => 97) v1 4 txt w h0 h1 (by omega)
    rw [hZ] at q; exact q
  clear hZ
  go_enter Try.func9, Try.ntmps9
  go_wp2_with (first
    | (refine conv_w rfl (.tmp 12) rfl tb 4 4 rfl 4 txt BT ?_; intro w6 ST LT k6)
    | (have _h := SA; refine bsl_txt rfl rfl ?_; intro tb w5 htb BT k5)
    | (refine conv_w rfl (.tmp 10) rfl ab 1 1 rfl 1 (fun _ => 97) BA ?_; intro w4 SA LA k4)
    | (refine bsl_1 rfl 97 rfl ?_; intro ab w3 hab BA k3)
    | (with_reducible refine load_b BN 25 (.tmp 2) Try.underlying25 ?_ ?_ ?_ ?_ ?_ ?_
       · rfl
       · rfl
       · rfl
       · rfl
       · (rw [yC_size]; exact nonInfo))
    | (with_reducible refine load_b (BK.chg k2 (by simp)) 23 (.tmp 1) Try.underlying23 ?_ ?_ ?_ ?_ ?_ ?_
       · rfl
       · rfl
       · rfl
       · rfl
       · (rw [yC_size]; exact keyInfo))
    | (with_reducible refine alloc_w rfl 25 rfl (.agg (yC 12 z0)) zeroNon (yC 12 z0) rfl ?_; intro nb w2 hnb BN k2)
    | (with_reducible refine alloc_w rfl 23 rfl (.agg (yC 32 z0)) zeroKey (yC 32 z0) rfl ?_; intro kb w1 hkb BK k1))
  have HO : Hid ((¬ ab = tb ∧ ¬ ab = kb ∧ ¬ ab = nb ∧ ¬ tb = kb ∧ ¬ tb = nb) ∧ w.heap.size ≤ ab ∧ w.heap.size ≤ tb) := ⟨⟨by have := BA.lt; have := k4.size; omega, by have := BK.lt; have := k2.size; omega, by have := BN.lt; omega, by have := BK.lt; have := k2.size; have := k3.size; have := k4.size; omega, by have := BN.lt; have := k3.size; have := k4.size; omega⟩, by have := k1.size; have := k2.size; omega, by have := k1.size; have := k2.size; have := k3.size; have := k4.size; omega⟩
  have K6 : Chg w w6 [] := ((((k1.trans1 k2).trans1 k3).new k4 HO.out.2.1).trans1 k5).new k6 HO.out.2.2
  have BK6 := ((((BK.chg k2 (by simp)).chg k3 (by simp)).chg k4 (by have := HO.out; simp; omega)).chg k5 (by simp)).chg k6 (by have := HO.out; simp; omega)
  have BN6 := (((BN.chg k3 (by simp)).chg k4 (by have := HO.out; simp; omega)).chg k5 (by simp)).chg k6 (by have := HO.out; simp; omega)
  have SA6 := (((Bs.of BA (fun _ _ => by decide) SA LA).chg k5 (by simp)).chg k6 (by have := HO.out; simp; omega)).sz 1 (by omega) (by omega)
  have ST6 := (Bs.of BT txt_lt ST LT).sz 4 (by omega) (by omega)
  clear BA BT SA ST LA LT BK BN k1 k2 k3 k4 k5 k6 hab htb hkb hnb
  refine (HSE.out w6 _ _ SA6 ST6).mono ?_
  rintro e w7 ⟨g, rfl, hg, BG, k7⟩
  have K7 : Chg w w7 [] := K6.trans1 k7
  have BK7 := BK6.chg k7 (by simp)
  have BN7 := BN6.chg k7 (by simp)
  clear K6 k7 BK6 BN6 SA6 ST6 HO hg
  go_wp2_with (first
    | (refine conv_w rfl (.tmp 18) rfl a2 1 1 rfl 1 (fun _ => 97) BA ?_; intro w9 SA LA k9)
    | (refine bsl_1 rfl 97 rfl ?_; intro a2 w8 ha2 BA k8)
    | (with_reducible refine load_b BN7 25 (.tmp 2) Try.underlying25 ?_ ?_ ?_ ?_ ?_ ?_
       · rfl
       · rfl
       · rfl
       · rfl
       · (rw [yC_size]; exact nonInfo))
    | (with_reducible refine load_b BK7 23 (.tmp 1) Try.underlying23 ?_ ?_ ?_ ?_ ?_ ?_
       · rfl
       · rfl
       · rfl
       · rfl
       · (rw [yC_size]; exact keyInfo)))
  have HA2 : Hid ((¬ a2 = g ∧ ¬ a2 = kb ∧ ¬ a2 = nb) ∧ w.heap.size ≤ a2) := ⟨⟨by have := BG.lt; omega, by have := BK7.lt; omega, by have := BN7.lt; omega⟩, by have := K7.size; omega⟩
  have K9 : Chg w w9 [] := (K7.trans1 k8).new k9 HA2.out.2
  have BG9 := (BG.chg k8 (by simp)).chg k9 (by have := HA2.out; simp; omega)
  have BK9 := (BK7.chg k8 (by simp)).chg k9 (by have := HA2.out; simp; omega)
  have BN9 := (BN7.chg k8 (by simp)).chg k9 (by have := HA2.out; simp; omega)
  have SA9 := (Bs.of BA (fun _ _ => by decide) SA LA).sz 1 (by omega) (by omega)
  clear BA SA LA BK7 BN7 BG k8 k9 K7 ha2
  have SG9 : Sz w9 (.slice (some ⟨g, 0, none⟩) 20 20) (4 + 16) Z := (BG9.sz HZL.out 0 20 20 (by omega) (by omega) (by omega)).cg (fun i _ => by rw [Nat.zero_add])
  refine (Open_s z0 z0 HZ.out.1 HZ.out.2 _ 1 (fun _ => 97) _ 4 Z w9 SA9 SG9 (by omega)).mono ?_
  rw [HT1.out]
  rintro e w10 hq
  rcases hq with ⟨_, t, rfl, ht, BT, k10⟩ | ⟨hq, _⟩
  · have K10 : Chg w w10 [] := K9.trans1 k10
    have BG10 := BG9.chg k10 (by simp)
    have BK10 := BK9.chg k10 (by simp)
    have BN10 := BN9.chg k10 (by simp)
    clear BG9 BK9 BN9 K9 k10 SA9 SG9 HA2
    go_wp2_with (first
      | (refine conv_w rfl (.tmp 27) rfl a3 1 1 rfl 1 (fun _ => 98) BA ?_; intro w12 SA LA k12)
      | (refine bsl_1 rfl 98 rfl ?_; intro a3 w11 ha3 BA k11)
      | (with_reducible refine load_b BN10 25 (.tmp 2) Try.underlying25 ?_ ?_ ?_ ?_ ?_ ?_
         · rfl
         · rfl
         · rfl
         · rfl
         · (rw [yC_size]; exact nonInfo))
      | (with_reducible refine load_b BK10 23 (.tmp 1) Try.underlying23 ?_ ?_ ?_ ?_ ?_ ?_
         · rfl
         · rfl
         · rfl
         · rfl
         · (rw [yC_size]; exact keyInfo)))
    have HA3 : Hid ((¬ a3 = g ∧ ¬ a3 = t) ∧ w.heap.size ≤ a3) := ⟨⟨by have := BG10.lt; omega, by have := BT.lt; omega⟩, by have := K10.size; omega⟩
    have K12 : Chg w w12 [] := (K10.trans1 k11).new k12 HA3.out.2
    have BG12 := (BG10.chg k11 (by simp)).chg k12 (by have := HA3.out; simp; omega)
    have BT12 := (BT.chg k11 (by simp)).chg k12 (by have := HA3.out; simp; omega)
    have SA12 := (Bs.of BA (fun _ _ => by decide) SA LA).sz 1 (by omega) (by omega)
    clear BA SA LA BK10 BN10 BG10 BT k11 k12 K10 ha3
    have SG12 : Sz w12 (.slice (some ⟨g, 0, none⟩) 20 20) (4 + 16) Z := (BG12.sz HZL.out 0 20 20 (by omega) (by omega) (by omega)).cg (fun i _ => by rw [Nat.zero_add])
    refine (Open_s z0 z0 HZ.out.1 HZ.out.2 _ 1 (fun _ => 98) _ 4 Z w12 SA12 SG12 (by omega)).mono ?_
    rw [HT2.out]
    rintro e w13 hq
    rcases hq with ⟨hq, _⟩ | ⟨_, rfl, k13⟩
    · cases hq
    have K13 : Chg w w13 [] := K12.trans1 k13
    have BT13 := (BT12.chg k13 (by simp)).to (yC_eq HBK.out)
    have hst := run_convert_bytes_back (P := Try.prog) w13 26 9 5 ⟨t, 0, none⟩ 4 [116, 101, 120, 116] Try.underlying26 Try.underlying5 Try.underlying9 (fun j hj => by
      have h4 : j = 0 ∨ j = 1 ∨ j = 2 ∨ j = 3 := by simp at hj; omega
      refine add_cell ?_
      rw [Nat.zero_add, BT13.cell, yC_get 4 _ j (by omega)]
      rcases h4 with rfl | rfl | rfl | rfl <;> rfl)
    clear BT12 BG12 k13 K12 SA12 SG12
    simp only [List.length_cons, List.length_nil, Nat.reduceAdd] at hst
    go_wp2_with fail
    refine (num_s 0 w13).mono ?_
    rintro e w14 ⟨rfl, rfl⟩
    go_wp2_with fail
    refine (num_s 121 w14).mono ?_
    rintro e w15 ⟨rfl, rfl⟩
    go_wp2_with fail
    go_ret
    exact ⟨rfl, K13⟩
  · cases hq
end Go.Proofs.Ytnopkojpgemldaa
