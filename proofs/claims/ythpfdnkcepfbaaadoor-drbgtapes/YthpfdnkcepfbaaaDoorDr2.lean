/- drbg.MAC. -/
import Derived.Test.YthpfdnkcepfbaaaDoorDr1
import Derived.Deep.DeepCutAuto
set_option linter.unusedVariables false
set_option linter.unusedSimpArgs false
set_option linter.unnecessarySimpa false
namespace Go.Proofs.YthpfdnkcepfbaaaDoor
open Go.RowKit

def p2 {α : Type} (a b : α) : Nat → α := fun i => if i = 0 then a else b
def p3 {α : Type} (a b c : α) : Nat → α := fun i => if i = 0 then a else if i = 1 then b else c
theorem catA (f : Nat → Nat) (m : Nat) (g : Nat → Nat) (n : Nat) (h : Nat → Nat) : cat (cat f m g) (m + n) h = cat f m (cat g n h) := by
  funext i
  unfold cat
  by_cases a : i < m
  · rw [if_pos (show i < m + n by omega), if_pos a, if_pos a]
  · by_cases b : i < m + n
    · rw [if_pos b, if_neg a, if_neg a, if_pos (show i - m < n by omega)]
    · rw [if_neg b, if_neg a, if_neg (show ¬ i - m < n by omega), show i - (m + n) = i - m - n by omega]
theorem cN_1 (a : Nat) : cN (fun _ => a) 1 = a := by simp [cN]
theorem cF_1 (a : Nat) (f : Nat → Nat) : cF (fun _ => a) (fun _ => f) 1 = f := by simp [cF, cN, cat_zero]
theorem cN_2 (a b : Nat) : cN (p2 a b) 2 = a + b := by simp [cN, p2]
theorem cF_2 (a b : Nat) (f g : Nat → Nat) : cF (p2 a b) (p2 f g) 2 = cat f a g := by simp [cF, cN, p2, cat_zero]
theorem cN_3 (a b c : Nat) : cN (p3 a b c) 3 = a + b + c := by simp [cN, p3]
theorem cF_3 (a b c : Nat) (f g h : Nat → Nat) : cF (p3 a b c) (p3 f g h) 3 = cat (cat f a g) (a + b) h := by simp [cF, cN, p3, cat_zero]
theorem Ps.mk1 {w : World} {g : Nat} {v0 : Value} {n0 : Nat} {f0 : Nat → Nat} {T : TypeId} (B : Blk w g #[v0] T) (h0 : Se w v0 n0 f0) :
    Ps w (.slice (some ⟨g, 0, none⟩) 1 1) 1 (fun _ => v0) (fun _ => n0) (fun _ => f0) := by
  refine ⟨fun i hi => h0, Or.inr ⟨g, 0, 1, rfl, Nat.le_refl _, by omega, B.lt, fun i hi => ?_⟩⟩
  obtain rfl : i = 0 := by omega
  rw [B.cell]; rfl
theorem Ps.mk2 {w : World} {g : Nat} {v0 v1 : Value} {n0 n1 : Nat} {f0 f1 : Nat → Nat} {T : TypeId} (B : Blk w g #[v0, v1] T) (h0 : Se w v0 n0 f0) (h1 : Se w v1 n1 f1) :
    Ps w (.slice (some ⟨g, 0, none⟩) 2 2) 2 (p2 v0 v1) (p2 n0 n1) (p2 f0 f1) := by
  refine ⟨fun i hi => ?_, Or.inr ⟨g, 0, 2, rfl, Nat.le_refl _, by omega, B.lt, fun i hi => ?_⟩⟩
  · rcases (show i = 0 ∨ i = 1 by omega) with rfl | rfl
    · exact h0
    · exact h1
  · rcases (show i = 0 ∨ i = 1 by omega) with rfl | rfl <;> (rw [B.cell]; rfl)
theorem Ps.mk3 {w : World} {g : Nat} {v0 v1 v2 : Value} {n0 n1 n2 : Nat} {f0 f1 f2 : Nat → Nat} {T : TypeId} (B : Blk w g #[v0, v1, v2] T) (h0 : Se w v0 n0 f0) (h1 : Se w v1 n1 f1) (h2 : Se w v2 n2 f2) :
    Ps w (.slice (some ⟨g, 0, none⟩) 3 3) 3 (p3 v0 v1 v2) (p3 n0 n1 n2) (p3 f0 f1 f2) := by
  refine ⟨fun i hi => ?_, Or.inr ⟨g, 0, 3, rfl, Nat.le_refl _, by omega, B.lt, fun i hi => ?_⟩⟩
  · rcases (show i = 0 ∨ i = 1 ∨ i = 2 by omega) with rfl | rfl | rfl
    · exact h0
    · exact h1
    · exact h2
  · rcases (show i = 0 ∨ i = 1 ∨ i = 2 by omega) with rfl | rfl | rfl <;> (rw [B.cell]; rfl)
theorem bytesRow : ∃ i, Tryd.prog.info? 22 = some i ∧ i.zero = some (.slice none 0 0) ∧ i.size = 1 ∧ i.bytes = 24 := by
  have h : (Tryd.prog.info? 22).map (fun i => (i.zero, i.size, i.bytes)) = some (some (.slice none 0 0), 1, 24) := by kernel_rfl
  cases hi : Tryd.prog.info? 22 with
  | none => rw [hi] at h; simp at h
  | some i => rw [hi] at h; simp at h; exact ⟨i, rfl, h.1, h.2.1, h.2.2⟩
theorem fillS1 (p : Option Addr) (n c : Nat) : Instr.fill (fun i => some (i * 1, 1)) ((Array.range (1 * 1)).map ((Value.slice none 0 0).cells[· % (Value.slice none 0 0).cells.size]!)) [(0, .slice p n c)] = some #[.slice p n c] := by kernel_rfl
theorem fillS2 (p : Option Addr) (n c : Nat) (q : Option Addr) (m d : Nat) : Instr.fill (fun i => some (i * 1, 1)) ((Array.range (2 * 1)).map ((Value.slice none 0 0).cells[· % (Value.slice none 0 0).cells.size]!)) [(0, .slice p n c), (1, .slice q m d)] = some #[.slice p n c, .slice q m d] := by kernel_rfl
theorem fillS3 (p : Option Addr) (n c : Nat) (q : Option Addr) (m d : Nat) (r : Option Addr) (l e : Nat) : Instr.fill (fun i => some (i * 1, 1)) ((Array.range (3 * 1)).map ((Value.slice none 0 0).cells[· % (Value.slice none 0 0).cells.size]!)) [(0, .slice p n c), (1, .slice q m d), (2, .slice r l e)] = some #[.slice p n c, .slice q m d, .slice r l e] := by kernel_rfl
theorem fillB1 (x : Int) : Instr.fill (fun i => some (i * 1, 1)) ((Array.range (1 * 1)).map ((Value.int .u8 0).cells[· % (Value.int .u8 0).cells.size]!)) [(0, .int .u8 x)] = some #[.int .u8 x] := by kernel_rfl
theorem wp_bsl_o {P : Program} {w : World} {op : Oper} {a : Act} {K : Act → World → Prop} {Q : Exit → Act → World → Prop} (t e : TypeId) (n : Nat) (parts : Array (Nat × Operand)) (ho : op.op = .buildSlice t n parts) (vs : List (Nat × Value)) (hv : (parts.map fun (i, x) => (i, a.eval x)).toList = vs) (cells : Array Value) (ie : TypeInfo) (z : Value)
    (hu : P.underlying t = some (.slice e)) (hie : P.info? e = some ie) (hz : ie.zero = some z) (s : Nat) (hs : ie.size = s) (h0 : ¬ n * s = 0) (h1 : ¬ n * s > 2 ^ 24)
    (hf : Instr.fill (fun i => some (i * s, s)) ((Array.range (n * s)).map (z.cells[· % z.cells.size]!)) vs = some cells)
    (h : ∀ g w', w.heap.size ≤ g → Blk w' g cells e → Chg w w' [] → K (a.put op.dst (.slice (some ⟨g, 0, none⟩) n n)) w') : op.wp P a w K Q := by
  subst hs hv
  exact wp_buildSlice t e n _ ho cells ie z hu hie hz h1 h0 hf (h _ _ (Nat.le_refl _) (Blk.new w _ _) ((Chg.refl w []).alloc _))
theorem off_ne {g o n c y : Nat} (h : ¬ g = y) : Off (.slice (some ⟨g, o, none⟩) n c) [y] := fun g' o' n' c' he hg => by
  simp only [Value.slice.injEq, Option.some.injEq, Addr.mk.injEq] at he
  simp at hg
  omega
set_option maxHeartbeats 8000000 in
set_option maxRecDepth 100000 in
theorem MAC_s (kv : Value) (kn : Nat) (kf : Nat → Nat) (v : Value) (k : Nat) (pv : Nat → Value) (pn : Nat → Nat) (pf : Nat → Nat → Nat) (w : World) (hG : Gl w) (hk : Se w kv kn kf) (hkn : kn < 18446744073709551616) (hp : Ps w v k pv pn pf) (hm : cN pn k < 18446744073709551488) :
    Calls Tryd.prog 12 #[kv, v] w fun e w' => e = .returned (.agg (yC 64 (mac kn kf (cN pn k) (cF pn pf k)))) ∧ Chg w w' [] := by
  have hlen : ∃ p c, v = .slice p k c := by
    rcases hp.2 with ⟨rfl, rfl⟩ | ⟨g, o, cap, rfl, _⟩
    · exact ⟨none, 0, rfl⟩
    · exact ⟨_, _, rfl⟩
  obtain ⟨vp, vc, rfl⟩ := hlen
  have hkb : k ≤ 9223372036854775807 := by
    rcases hp.2 with ⟨rfl, _⟩ | ⟨g, o, cap, _, h1, h2, _⟩ <;> omega
  have HP : Hid (Ps w (.slice vp k vc) k pv pn pf) := hp
  have HKS : Hid (Se w kv kn kf ∧ kn < 18446744073709551616) := ⟨hk, hkn⟩
  have HG : Hid (Gl w) := hG
  have HL : Hid (1 < w.heap.size) := hG.lt
  have HM : Hid (cN pn k < 18446744073709551488) := hm
  obtain ⟨B, hB⟩ : ∃ B, kb kn kf = B := ⟨_, rfl⟩
  have HB : Hid (∀ j, j < 128 → B j < 256) := by
    show ∀ j, j < 128 → B j < 256
    intro j _
    rw [← hB]; exact kb_lt hk.bd j
  have HM1 : Hid (∀ j, j < 128 → mk 92 B j < 256) := fun j hj => mk_lt (by decide) (HB.out j hj)
  have HM0 : Hid (∀ j, j < 128 → mk 54 B j < 256) := fun j hj => mk_lt (by decide) (HB.out j hj)
  obtain ⟨D1, hD⟩ : ∃ D, sha (cat (mk 54 B) 128 (cF pn pf k)) (128 + cN pn k) = D := ⟨_, rfl⟩
  have HD1 : Hid (∀ j, j < 64 → D1 j < 256) := by
    show ∀ j, j < 64 → D1 j < 256
    intro j _; rw [← hD]; exact sha_lt _ _ _
  obtain ⟨MM, hMM⟩ : ∃ M, sha (cat (mk 92 B) 128 D1) (128 + 64) = M := ⟨_, rfl⟩
  have HMM : Hid (sha (cat (mk 92 B) 128 D1) (128 + 64) = MM) := hMM
  have hMA : mac kn kf (cN pn k) (cF pn pf k) = MM := by
    unfold mac macb; rw [hB, hD]; exact hMM
  rw [hMA]
  have HDE : Hid (sha (cat (mk 54 B) 128 (cF pn pf k)) (128 + cN pn k) = D1) := hD
  have HBE : Hid (kb kn kf = B) := hB
  clear hp hk hkn hG hm hB hD hMM hMA
  obtain ⟨ib, hib, hibz, hibs, _⟩ := bytesRow
  go_enter Tryd.func12, Tryd.ntmps12
  go_wp2_with (with_reducible refine alloc_w rfl 47 rfl (.agg (yC 64 (fun _ => 0))) zeroDig (yC 64 (fun _ => 0)) rfl ?_; intro rb w1 hrb BR k1)
  refine (padded_s kv kn kf w1 (HG.out.chg k1 (by simp) (by simp)) (HKS.out.1.chg k1) HKS.out.2).mono ?_
  rintro e w2 ⟨rfl, k2⟩
  rw [HBE.out]
  have K2 := k1.trans1 k2
  replace BR := BR.chg k2 (by simp)
  have HR2 : Hid (rb < w2.heap.size) := BR.lt
  clear k1 k2
  go_wp2_with (first
    | (have _h := BP; refine store_w BP rfl 103 _ _ (yC 128 B) rfl rfl rfl (by rw [yC_size]; exact padInfo) (by rw [yC_size, yC_size]) (yC_one 128 _) ?_; intro w4 BP4 k4)
    | (with_reducible refine alloc_w rfl 103 rfl (.agg (yC 128 (fun _ => 0))) zeroPad (yC 128 (fun _ => 0)) rfl ?_; intro pb w3 hpb BP k3))
  have HPR : Hid (¬ pb ∈ [rb]) := by show ¬ pb ∈ [rb]; have := HR2.out; simp; omega
  replace BR := (BR.chg k3 (by simp)).chg k4 (by have := HR2.out; simp; omega)
  have K4 := (K2.trans1 k3).new k4 (Nat.le_trans K2.size hpb)
  have HR4 : Hid (w.heap.size ≤ rb ∧ w.heap.size ≤ w4.heap.size) := ⟨hrb, K4.size⟩
  clear k3 k4 K2 HR2 hpb hrb BP
  refine (New_s w4 (HG.out.chg K4 (by simp) (by simp))).mono ?_
  rintro e w5 ⟨y, rfl, k5, hy, A5⟩
  have HY : Hid (rb < y ∧ pb < y ∧ w.heap.size ≤ y) := ⟨Nat.lt_of_lt_of_le BR.lt hy, Nat.lt_of_lt_of_le BP4.lt hy, Nat.le_trans HR4.out.2 hy⟩
  replace BR := BR.chg k5 (by simp)
  have BP5 := BP4.chg k5 (by simp)
  have K5 := K4.trans1 k5
  have H5 : Hs w5 y (fun _ => 0) 0 := ⟨fun _ => 0, A5, fun _ _ => Nat.zero_lt_succ _, fun j hj => absurd hj (Nat.not_lt_zero _)⟩
  clear k5 BP4 K4 A5 hy
  go_wp2_with (with_reducible refine load_b BP5 103 (.tmp 5) Tryd.underlying103 ?_ ?_ ?_ ?_ ?_ ?_
               · rfl
               · rfl
               · rfl
               · rfl
               · (rw [yC_size]; exact padInfo))
  refine (masked_s B 54 54 rfl HB.out (by decide) w5).mono ?_
  rintro e w6 ⟨g6, rfl, hg6, B6, k6⟩
  have HG6 : Hid (¬ g6 = y) := by show ¬ g6 = y; have := H5.lt; omega
  replace BR := BR.chg k6 (by simp)
  have BP6 := BP5.chg k6 (by simp)
  have K6 := K5.trans1 k6
  replace H5 := H5.chg k6 (by simp)
  clear k6 BP5 K5 hg6
  go_wp2_with fail
  refine (Write_h y 0 128 (fun _ => 0) (mk 54 B) _ w6 (HG.out.chg K6 (by simp) (by simp)) H5 (by have := HY.out; have := HL.out; omega) (B6.slT HM0.out (by omega)) (off_ne HG6.out) (by omega)).mono ?_
  rintro e w7 ⟨rfl, k7, H7⟩
  rw [cat_zero, Nat.zero_add] at H7
  replace BR := BR.chg k7 (by have := HY.out; simp; omega)
  have BP7 := BP6.chg k7 (by have := HY.out; simp; omega)
  have K7 := K6.new k7 HY.out.2.2
  clear k7 BP6 K6 B6 HG6 H5
  have HE0 : Hid (cat (mk 54 B) 128 (cF pn pf 0) = cat (mk 54 B) 128 (fun _ => 0)) := rfl
  have H70 : Hs w7 y (cat (mk 54 B) 128 (cF pn pf 0)) (128 + cN pn 0) := by
    obtain ⟨t, q1, q2, q3⟩ := H7
    refine ⟨t, ?_, q2, fun j hj => ?_⟩
    · refine q1.to (congrArg (fun q => hC q t 128) (run_congr _ fun i hi => ?_))
      unfold cat; rw [if_pos (by omega)]
    · have hj' : j < 128 % 128 := hj
      omega
  clear H7
  go_wp2_with fail
  go_loopw [19] (fun t wr => ∃ i : Nat, i ≤ k ∧ t = .int .i64 (i : Int) ∧ Hs wr y (cat (mk 54 B) 128 (cF pn pf i)) (128 + cN pn i) ∧ Chg w7 wr [y]) (fun t _ => ((k : Int) - intOf t).toNat)
  case atStart => exact ⟨0, by omega, rfl, H70, Chg.refl _ _⟩
  case round =>
    obtain ⟨i, hi, rfl, hs, c0⟩ := hrel
    have KW : Chg w wr [] := K7.new c0 HY.out.2.2
    by_cases h8 : i < k
    · have hI : (i : Int) < (k : Int) := by omega
      have e1 : IntKind.i64.wrap ((i : Int) + 1) = (i : Int) + 1 := by rw [IntKind.wrap_i64]; omega
      have hpi := HP.out.1 i h8
      have hp2 := (HP.out.chg KW).2
      have hsum : 128 + cN pn i + pn i < 18446744073709551616 := by
        have q1 : cN pn i + pn i ≤ cN pn k := cN_mono pn (show i + 1 ≤ k by omega)
        have q2 := HM.out
        omega
      rcases hp2 with ⟨h0, _⟩ | ⟨g, o, cap, he, _, _, _, hcell⟩
      · omega
      · simp only [Value.slice.injEq] at he
        obtain ⟨rfl, _, rfl⟩ := he
        have cx := hcell i h8
        have HW := Write_e y (128 + cN pn i) (pn i) (cat (mk 54 B) 128 (cF pn pf i)) (pf i) (pv i) wr (HG.out.chg KW (by simp) (by simp)) hs (by have := HY.out; have := HL.out; omega) (hpi.off KW y HY.out.2.2) hsum
        rw [catA, Nat.add_assoc] at HW
        have HWH : Hid (Calls Tryd.prog 43 #[.pointer (some ⟨y, 0, none⟩), pv i] wr fun e w' => e = .returned (.tuple #[]) ∧ Chg wr w' [y] ∧ Hs w' y (cat (mk 54 B) 128 (cat (cF pn pf i) (cN pn i) (pf i))) (128 + (cN pn i + pn i))) := HW
        clear HW hsum hpi hcell
        go_wp2_with fail
        refine HWH.out.mono ?_
        rintro e v3 ⟨rfl, k3, H3⟩
        go_wp2_with fail
        exact ⟨⟨i + 1, by omega, by go_num, H3, c0.trans1 k3⟩, by simp [intOf]; omega⟩
    · have h9 : i = k := by omega
      subst h9
      have hI : ¬ (i : Int) < (i : Int) := by omega
      replace BR := BR.chg c0 (by have := HY.out; simp; omega)
      have BP8 := BP7.chg c0 (by have := HY.out; simp; omega)
      clear c0 BP7 K7 H70
      go_wp2_with fail
      refine (Sum_h y (128 + cN pn i) _ wr (HG.out.chg KW (by simp) (by simp)) hs (by have := HM.out; omega)).mono ?_
      rintro e w8 ⟨rfl, k8⟩
      rw [HDE.out]
      have BR8 := BR.chg k8 (by simp)
      have BP9' := BP8.chg k8 (by simp)
      have K8 := KW.trans1 k8
      have HR8 : Hid (rb < w8.heap.size ∧ pb < w8.heap.size) := ⟨BR8.lt, BP9'.lt⟩
      clear k8 KW BR BP8 hs
      go_upto_region 10 with (first
        | (have _h := BD; refine store_w BD rfl 47 _ _ (yC 64 D1) rfl rfl rfl (by rw [yC_size]; exact digInfo) (by rw [yC_size, yC_size]) (yC_one 64 _) ?_; intro w9 BD9 k9')
        | (with_reducible refine alloc_w rfl 47 rfl (.agg (yC 64 (fun _ => 0))) zeroDig (yC 64 (fun _ => 0)) rfl ?_; intro db w8' hdb BD k8'))
      have BR9 := (BR8.chg k8' (by simp)).chg k9' (by have := HR8.out; simp; omega)
      have BP9 := (BP9'.chg k8' (by simp)).chg k9' (by have := HR8.out; simp; omega)
      have K9 := (K8.trans1 k8').new k9' (Nat.le_trans K8.size hdb)
      have HDR : Hid (¬ db ∈ [rb]) := by show ¬ db ∈ [rb]; have := HR8.out; simp; omega
      have HNR : Hid (∀ i, i ∈ [rb] → i ∈ ([] : List Nat) ∨ w.heap.size ≤ i) := by show ∀ i, i ∈ [rb] → _; intro i hi; simp at hi; subst hi; exact Or.inr HR4.out.1
      clear k8' k9' K8 BP9' BR8 BD hdb
      refine wp_region_held_drew (S := fun w' => Chg w9 w' [rb]) (by kernel_rfl) ((Chg.refl w9 _).drew) (fun hHeld => ?_)
      refine take_load 0 (some 29) (yC 128 B) rfl (by kernel_rfl) (by kernel_rfl) (by kernel_rfl) (fun _ _ _ h => h) rfl rfl 103 _ rfl pb rfl 103 _ (fun w h => BP9.chg h HPR.out) Tryd.underlying103 rfl (by first | exact feInfo | kernel_rfl) hHeld ?_
      try simp only [Act.put, List.setIfInBounds_toArray, List.set_cons_zero, List.set_cons_succ]
      refine take_val (v := (.slice (some ⟨db, 0, none⟩) 64 64)) 2 (some 31) rfl (by kernel_rfl) (by kernel_rfl) (by kernel_rfl) (fun _ _ _ h => h) rfl rfl (fun w hSw => ?_) hHeld ?_
      · (go_simp; try with_reducible rfl)
      try simp only [Act.put, List.setIfInBounds_toArray, List.set_cons_zero, List.set_cons_succ]
      refine wpAnyH_ready (rs := [1]) (by kernel_rfl) (by simp) ?_
      refine AllReadyH.cons (o := _) rfl (fun K hK => ?_) ?_
      ·
        go_simp
        refine (masked_s B 92 92 rfl HB.out (by decide) _).mono ?_
        rintro e v1 ⟨g1, rfl, hg1, B1, k1⟩
        have BRx := BR9.drew.chg k1 (by simp)
        have HG1 : Hid (w9.heap.size ≤ g1) := Nat.le_trans hHeld.size hg1
        go_wp2_with fail
        refine hK.out _ _ (hHeld.trans k1 (by simp)) (fun hHeld => ?_)
        clear hK K
        try simp only [Act.put, List.setIfInBounds_toArray, List.set_cons_zero, List.set_cons_succ]
        clear k1 hg1
        refine wpAnyH_ready (rs := [3]) (by kernel_rfl) (by simp) ?_
        refine AllReadyH.cons (o := _) rfl (fun K hK => ?_) ?_
        ·
          rw [if_pos (by rfl)]
          refine wp_bsl_o 23 22 2 #[(0, .tmp 30), (1, .tmp 31)] rfl [(0, .slice (some ⟨g1, 0, none⟩) 128 128), (1, .slice (some ⟨db, 0, none⟩) 64 64)] (by simp [Act.eval]) #[.slice (some ⟨g1, 0, none⟩) 128 128, .slice (some ⟨db, 0, none⟩) 64 64] ib (.slice none 0 0) Tryd.underlying23 hib hibz 1 hibs (by omega) (by omega) (fillS2 _ _ _ _ _ _) ?_
          intro g2 v2 hg2 B2 k2
          replace BRx := BRx.chg k2 (by simp)
          change K (Act.put _ (some 32) _) _
          refine hK.out _ _ (hHeld.trans k2 (by simp)) (fun hHeld => ?_)
          clear hK K
          try simp only [Act.put, List.setIfInBounds_toArray, List.set_cons_zero, List.set_cons_succ]
          replace B1 := B1.chg k2 (by simp)
          clear k2
          refine wpAnyH_ready (rs := [4]) (by kernel_rfl) (by simp) ?_
          refine AllReadyH.cons (o := _) rfl (fun K hK => ?_) ?_
          ·
            go_simp
            have SD := (BD9.chg hHeld HDR.out).slT HD1.out (by omega)
            have SM := B1.slT HM1.out (by omega)
            refine (Join_s _ 2 _ _ _ _ (HG.out.chg (K9.trans hHeld HNR.out) (by simp) (by simp)) (Ps.mk2 B2 (Or.inl SM) (Or.inl SD)) (by rw [cN_2]; omega)).mono ?_
            rintro e v3 ⟨rfl, k3⟩
            replace BRx := BRx.chg k3 (by simp)
            rw [cN_2, cF_2, HMM.out]
            go_wp2_with fail
            refine hK.out _ _ (hHeld.trans k3 (by simp)) (fun hHeld => ?_)
            clear hK K
            try simp only [Act.put, List.setIfInBounds_toArray, List.set_cons_zero, List.set_cons_succ]
            clear k3
            refine wpAnyH_ready (rs := [5]) (by kernel_rfl) (by simp) ?_
            refine AllReadyH.cons (o := _) rfl (fun K hK => ?_) ?_
            ·
              rw [if_pos (by rfl)]
              refine wp_store_w BRx 47 _ _ (yC 64 MM) rfl rfl rfl (by rw [yC_size]; exact digInfo) (by rw [yC_size, yC_size]) (yC_one 64 _) ?_
              intro v4 BR4 k4
              refine hK.out _ _ (hHeld.trans1 k4) (fun hHeld => ?_)
              clear hK K
              try simp only [Act.put, List.setIfInBounds_toArray, List.set_cons_zero, List.set_cons_succ]
              refine wpAnyH_done (by kernel_rfl) ?_ _
              have C := K9.trans hHeld HNR.out
              go_wp2_with fail
              exact bodyPost_ret (results_cell_row Tryd.results12 _ _ rb 47 _ (0, 0) _ rfl BR4 Tryd.underlying47 rfl (by rw [yC_size]; exact digInfo)) rfl ⟨rfl, C⟩
            exact AllReadyH.nil
          exact AllReadyH.nil
        exact AllReadyH.nil
      exact AllReadyH.nil
end Go.Proofs.YthpfdnkcepfbaaaDoor
