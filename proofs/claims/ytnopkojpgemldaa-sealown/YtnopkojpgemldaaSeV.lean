/- seal: tagger.tag, tagger.take. -/
import Derived.Test.YtnopkojpgemldaaSeU
import Derived.Laws.Externs
import Derived.Shelf.Spec.BitsCarry
set_option linter.unusedVariables false
set_option linter.unusedSimpArgs false
set_option linter.unnecessarySimpa false
namespace Go.Proofs.Ytnopkojpgemldaa
open Go.RowKit

theorem load_mm {P : Program} {w : World} {ops : Array Oper} {rest : List Oper} {op : Oper} {a : Act} {Q : Exit → Act → World → Prop} (hgd : op.guard = none) (ty : TypeId) (x : Operand) (ho : op.op = .load ty x) (b o : Nat) (hx : a.eval x = .pointer (some ⟨b, o, none⟩)) (cs : List Value) (d : TypeDesc) (hc : w.rangeAt b o cs)
    (hu : P.underlying ty = some d) (hd : d.isRow = true) (hi : (P.info? ty).map (·.size) = some cs.length) (v : Array Value) (hv : cs.toArray = v) (h : wpList P ops Q rest (a.put op.dst (.agg v)) w) : wpList P ops Q (op :: rest) a w := by
  subst hv
  refine wpList_plain hgd fun K hK => ?_
  unfold Oper.wp
  simp only [exec_load_m w ty x ho b o hx cs d hc hu hd hi]
  exact hK _ _ h
theorem add64n (x y c s d : Nat) (hx : x < 18446744073709551616) (hy : y < 18446744073709551616) (hc : c ≤ 1) (hs : (x + y + c) % 18446744073709551616 = s) (hd : (x + y + c) / 18446744073709551616 = d) (w : World) : (callFunc 71 #[.int .u64 (x : Int), .int .u64 (y : Int), .int .u64 (c : Int)]).run Try.prog w =
    .ok (.value (.tuple #[.int .u64 (s : Int), .int .u64 (d : Int)])) w := by
  rw [run_callFunc_extern Try.func71 (by kernel_rfl) (by kernel_rfl) (by kernel_rfl) (e := add64Entry) (by kernel_rfl), run_add64 x y c (by omega) (by omega) (by omega) (by omega)]
  simp only [Result.andThen]
  have e1 : ((x : Int) + (y : Int) + (c : Int)) % 18446744073709551616 = (s : Int) := by omega
  have e2 : ((x : Int) + (y : Int) + (c : Int)) / 18446744073709551616 = (d : Int) := by omega
  rw [e1, e2]
theorem tagInfo : (Try.prog.info? 43).map (·.size) = some 16 := by kernel_rfl
theorem zeroTag : (Try.prog.info? 43).bind (·.zero) = some (.agg (yC 16 (fun _ => 0))) := by kernel_rfl
/-- A tagger: the sum so far is A, the key's halves are R and s. -/
def Tg (w : World) (y A R : Nat) (s : Nat → Nat) : Prop := ∃ h, Blk w y (vC 5 h ++ (vC 5 (lb R) ++ yC 16 s)) 114 ∧ Hm h ∧ lv h % PP = A
theorem Tg.chg {w w' : World} {y A R : Nat} {s : Nat → Nat} {l : List Nat} (H : Tg w y A R s) (k : Chg w w' l) (hl : ¬ y ∈ l) : Tg w' y A R s := by
  obtain ⟨h, b, q⟩ := H
  exact ⟨h, b.chg k hl, q⟩
theorem Tg.lt {w : World} {y A R : Nat} {s : Nat → Nat} (H : Tg w y A R s) : y < w.heap.size := by
  obtain ⟨h, b, q⟩ := H
  exact b.lt
theorem Tg.bs {w : World} {y A R : Nat} {s : Nat → Nat} (H : Tg w y A R s) (hs : ∀ i, i < 16 → s i < 256) (o : Nat) (ho : o + 8 ≤ 16) : Bs w y (10 + o) 8 (fun i => s (o + i)) := by
  obtain ⟨h, b, q⟩ := H
  refine ⟨b.lt, fun i hi => hs _ (by omega), fun i hi => ?_⟩
  rw [b.cell, Array.getElem?_append_right (by rw [vC_size]; omega), vC_size, Array.getElem?_append_right (by rw [vC_size]; omega), vC_size, show 10 + o + i - 5 - 5 = o + i by omega, yC_get 16 _ _ (by omega)]
/-- The tag's bytes. -/
def tgN (A : Nat) (s : Nat → Nat) : Nat := (A + nle s 16) % 340282366920938463463374607431768211456
def tgB (A : Nat) (s : Nat → Nat) (i : Nat) : Nat := tgN A s / 256 ^ i % 256
theorem tgB_lt (A : Nat) (s : Nat → Nat) (i : Nat) : tgB A s i < 256 := Nat.mod_lt _ (by decide)
theorem by16 (z : Nat → Nat) (L H : Nat) (hL : L < 18446744073709551616) (i : Nat) (hi : i < 16) : pl (pl z 0 L) 8 H i = (L + H * 18446744073709551616) / 256 ^ i % 256 := by
  unfold pl
  by_cases h : 8 ≤ i ∧ i < 8 + 8
  · rw [if_pos h]
    obtain ⟨j, rfl⟩ : ∃ j, i = 8 + j := ⟨i - 8, by omega⟩
    rw [Nat.add_sub_cancel_left, Nat.pow_add, ← Nat.div_div_eq_div_mul, show (256 : Nat) ^ 8 = 18446744073709551616 by decide, Nat.add_mul_div_right _ _ (by decide), Nat.div_eq_of_lt hL, Nat.zero_add]
  · rw [if_neg h, if_pos (by omega), Nat.sub_zero]
    have hcs : i = 0 ∨ i = 1 ∨ i = 2 ∨ i = 3 ∨ i = 4 ∨ i = 5 ∨ i = 6 ∨ i = 7 := by omega
    rcases hcs with rfl | rfl | rfl | rfl | rfl | rfl | rfl | rfl <;> simp only [Nat.pow_zero, Nat.reducePow, Nat.pow_one] <;> omega
theorem nle16 (b : Nat → Nat) : nle b 16 = nle b 8 + nle (fun i => b (8 + i)) 8 * 18446744073709551616 := by
  simp [nle]; omega
theorem tag_num (A S0 S1 L1 O H1 : Nat) (hA : A < 1361129467683753853853498429727072845824) (h1 : (A % 18446744073709551616 + S0 + 0) % 18446744073709551616 = L1) (h2 : (A % 18446744073709551616 + S0 + 0) / 18446744073709551616 = O) (h3 : (A / 18446744073709551616 % 18446744073709551616 + S1 + O) % 18446744073709551616 = H1) :
    L1 + H1 * 18446744073709551616 = (A + (S0 + S1 * 18446744073709551616)) % 340282366920938463463374607431768211456 := by omega
set_option maxHeartbeats 8000000 in
set_option maxRecDepth 100000 in
theorem tag_s (y A R : Nat) (s : Nat → Nat) (hs : ∀ i, i < 16 → s i < 256) (w : World) (H : Tg w y A R s) :
    Calls Try.prog 36 #[.pointer (some ⟨y, 0, none⟩)] w fun e w' => e = .returned (.agg (yC 16 (tgB A s))) ∧ Chg w w' [] := by
  have HT : Hid (Tg w y A R s) := H
  obtain ⟨h, B, hm, hA⟩ := H
  have HL := low_s h hm
  rw [hA] at HL
  have hA2 : A < 1361129467683753853853498429727072845824 := by rw [← hA]; have := Nat.mod_lt (lv h) (show 0 < PP by decide); unfold PP at this ⊢; omega
  have HS : Hid (∀ i, i < 16 → s i < 256) := hs
  have e16 := nle16 s
  rw [← le8_nle, ← le8_nle] at e16
  have u0 := le8_lt (b := s) (fun i hi => hs i (by omega))
  have u1 := le8_lt (b := fun i => s (8 + i)) (fun i hi => hs _ (by omega))
  obtain ⟨S0, hS0⟩ : ∃ S, le8 s = S := ⟨_, rfl⟩
  obtain ⟨S1, hS1⟩ : ∃ S, le8 (fun i => s (8 + i)) = S := ⟨_, rfl⟩
  rw [hS0, hS1] at e16
  rw [hS0] at u0; rw [hS1] at u1
  have HC0 : Hid (∀ w', Chg w w' [] → Calls Try.prog 38 #[.slice (some ⟨y, 10, none⟩) 16 16] w' fun e v => e = .returned (.int .u64 (S0 : Int)) ∧ ∃ m, v = w'.drewN m) := fun w' hc => by
    have q := long_s y 10 16 16 s w' (by omega) (by omega) (by have := (HT.out.chg hc (by simp)).bs HS.out 0 (by omega); simpa using this)
    rw [hS0] at q; exact q
  have HC1 : Hid (∀ w', Chg w w' [] → Calls Try.prog 38 #[.slice (some ⟨y, 18, none⟩) 8 8] w' fun e v => e = .returned (.int .u64 (S1 : Int)) ∧ ∃ m, v = w'.drewN m) := fun w' hc => by
    have q := long_s y 18 8 8 (fun i => s (8 + i)) w' (by omega) (by omega) ((HT.out.chg hc (by simp)).bs HS.out 8 (by omega))
    rw [hS1] at q; exact q
  obtain ⟨L1, hL1⟩ : ∃ L, (A % 18446744073709551616 + S0 + 0) % 18446744073709551616 = L := ⟨_, rfl⟩
  obtain ⟨O, hO⟩ : ∃ L, (A % 18446744073709551616 + S0 + 0) / 18446744073709551616 = L := ⟨_, rfl⟩
  obtain ⟨H1, hH1⟩ : ∃ L, (A / 18446744073709551616 % 18446744073709551616 + S1 + O) % 18446744073709551616 = L := ⟨_, rfl⟩
  obtain ⟨O2, hO2⟩ : ∃ L, (A / 18446744073709551616 % 18446744073709551616 + S1 + O) / 18446744073709551616 = L := ⟨_, rfl⟩
  have hT := tag_num A S0 S1 L1 O H1 hA2 hL1 hO hH1
  rw [← e16] at hT
  have HF : Hid (yC 16 (pl (pl (fun _ => 0) 0 L1) 8 H1) = yC 16 (tgB A s)) := yC_eq fun i hi => by rw [by16 _ _ _ (by omega) i hi, hT]; rfl
  unfold U at u0 u1
  obtain ⟨L0, hL0⟩ : ∃ L, A % 18446744073709551616 = L := ⟨_, rfl⟩
  obtain ⟨H0, hH0⟩ : ∃ L, A / 18446744073709551616 % 18446744073709551616 = L := ⟨_, rfl⟩
  rw [hL0] at hL1 hO HL
  rw [hH0] at hH1 hO2 HL
  have A1 : ∀ w, (callFunc 71 #[.int .u64 (L0 : Int), .int .u64 (S0 : Int), .int .u64 0]).run Try.prog w = .ok (.value (.tuple #[.int .u64 (L1 : Int), .int .u64 (O : Int)])) w := add64n L0 S0 0 L1 O (by omega) u0 (by omega) hL1 hO
  have A2 := add64n H0 S1 O H1 O2 (by omega) u1 (by omega) hH1 hO2
  have HU : Hid (U L1 ∧ U H1) := ⟨by unfold U; omega, by unfold U; omega⟩
  have HR : Hid (w.rangeAt y 0 (vL 5 h)) := fun j x hj => by
    obtain ⟨h1, rfl⟩ := vL_some 5 h j x hj
    rw [Nat.zero_add, B.cell, vp_get 5 _ _ j h1]
  have HW : Hid (y < w.heap.size) := B.lt
  clear hT e16 hA hA2 u0 u1 hL1 hO hH1 hO2 hL0 hH0 hs hm B hS0 hS1
  go_enter Try.func36, Try.ntmps36
  go_wp2_with (first
    | (with_reducible refine load_mm ?_ 110 (.tmp 10) ?_ y 0 ?_ (vL 5 h) _ ?_ Try.underlying110 ?_ ?_ (vC 5 h) ?_ ?_
       · rfl
       · rfl
       · rfl
       · (intro j x hj; rw [k1.cell y _ HW.out (by simp)]; exact HR.out j x hj)
       · rfl
       · (rw [vL_len]; exact rsdInfo)
       · rfl)
    | (with_reducible refine alloc_w rfl 43 rfl (.agg (yC 16 (fun _ => 0))) zeroTag (yC 16 (fun _ => 0)) rfl ?_; intro rb w1 hrb BR k1))
  refine (HL w1).mono ?_
  rintro e w2 ⟨rfl, k2⟩
  have K2 : Chg w w2 [] := k1.trans1 k2
  have BR2 := BR.chg k2 (by simp)
  clear BR k1 k2
  go_wp2_with fail
  refine (HC0.out w2 K2).mono ?_
  rintro e w3 ⟨rfl, m3, rfl⟩
  go_wp2_with (simp only [A1])
  refine (HC1.out (w2.drewN m3) (K2.drewN m3)).mono ?_
  rintro e w3 ⟨rfl, m4, rfl⟩
  have K4 := (K2.drewN m3).drewN m4
  have BR4 := (BR2.drewN m3).drewN m4
  obtain ⟨w4, hw4⟩ : ∃ z, z = (w2.drewN m3).drewN m4 := ⟨_, rfl⟩
  rw [← hw4] at K4 BR4 ⊢
  clear hw4 K2 BR2
  go_wp2_with (first
    | simp only [A2]
    | (with_reducible refine alloc_w rfl 43 rfl (.agg (yC 16 (fun _ => 0))) zeroTag (yC 16 (fun _ => 0)) rfl ?_; intro ob w5 hob BO k5))
  have HO : Hid (¬ ob = rb ∧ w.heap.size ≤ ob ∧ w.heap.size ≤ rb) := ⟨by have := BR4.lt; omega, by have := K4.size; omega, hrb⟩
  have K5 : Chg w w5 [] := K4.trans1 k5
  have BR5 := BR4.chg k5 (by simp)
  clear K4 k5 BR4 hob hrb
  refine (putLong_s ob 0 8 16 16 (fun _ => 0) L1 43 w5 (by omega) (by omega) HU.out.1 (by omega) BO).mono ?_
  rintro e w6 ⟨rfl, BO6, k6⟩
  go_wp2_with fail
  refine (putLong_s ob 8 8 8 16 (pl (fun _ => 0) 0 L1) H1 43 w6 (by omega) (by omega) HU.out.2 (by omega) BO6).mono ?_
  rintro e w7 ⟨rfl, BO7, k7⟩
  rw [HF.out] at BO7
  have K7 : Chg w w7 [] := K5.new (k6.trans1 k7) HO.out.2.1
  have BR7 := BR5.chg (k6.trans1 k7) (by have := HO.out.1; simp; omega)
  clear K5 k6 k7 BR5 BO BO6
  go_wp2_with (first
    | (refine store_w BR7 rfl 43 _ _ (yC 16 (tgB A s)) rfl rfl rfl (by rw [yC_size]; exact tagInfo) (by rw [yC_size, yC_size]) (yC_one 16 _) ?_; intro w8 BR8 k8)
    | (with_reducible refine load_b BO7 43 (.tmp 6) Try.underlying43 ?_ ?_ ?_ ?_ ?_ ?_
       · rfl
       · rfl
       · rfl
       · rfl
       · (rw [yC_size]; exact tagInfo)))
  have C : Chg w w8 [] := K7.new k8 HO.out.2.2
  exact bodyPost_ret (results_cell_row Try.results36 _ _ rb 43 (yC 16 (tgB A s)) (0, 0) _ rfl BR8 Try.underlying43 rfl (by rw [yC_size]; exact tagInfo)) rfl ⟨rfl, C⟩
theorem nle_stop (b : Nat → Nat) (n : Nat) : ∀ k, (∀ i, n ≤ i → i < n + k → b i = 0) → nle b (n + k) = nle b n
  | 0, _ => rfl
  | k + 1, h => by rw [← Nat.add_assoc, nle, h (n + k) (by omega) (by omega), Nat.zero_mul, Nat.add_zero, nle_stop b n k (fun i h1 h2 => h i h1 (by omega))]
/-- A piece in its room. -/
def rm (f : Nat → Nat) (n size : Nat) : Nat → Nat := up (lay (fun _ => 0) 0 n f) size 1
theorem nle_rm (f : Nat → Nat) (n size : Nat) (hn : n ≤ size) (hs : size ≤ 16) : nle (rm f n size) 17 = nle f n + 256 ^ size := by
  have e1 : nle (rm f n size) n = nle f n := nle_eq n fun i hi => by unfold rm up lay; rw [if_neg (by omega), if_pos (by omega), Nat.sub_zero]
  have e2 := nle_stop (rm f n size) n (size - n) fun i h1 h2 => by unfold rm up lay; rw [if_neg (by omega), if_neg (by omega)]
  have e3 := nle_stop (rm f n size) (size + 1) (17 - (size + 1)) fun i h1 h2 => by unfold rm up lay; rw [if_neg (by omega), if_neg (by omega)]
  rw [show n + (size - n) = size by omega] at e2
  rw [show size + 1 + (17 - (size + 1)) = 17 by omega] at e3
  have e4 : nle (rm f n size) (size + 1) = nle (rm f n size) size + rm f n size size * 256 ^ size := rfl
  rw [e3, e4, e2, e1, show rm f n size size = 1 by unfold rm up; rw [if_pos rfl], Nat.one_mul]
theorem rm_lt {f : Nat → Nat} {n : Nat} (size : Nat) (hf : ∀ i, i < n → f i < 256) (i : Nat) : rm f n size i < 256 := by
  unfold rm up lay
  split
  · omega
  · split
    · exact hf _ (by omega)
    · exact Nat.zero_lt_succ _
theorem rm_16 (f : Nat → Nat) (n size : Nat) (hn : n ≤ 16) : rm f n size 16 ≤ 1 := by
  unfold rm up lay
  split
  · omega
  · rw [if_neg (by omega)]; exact Nat.zero_le _
theorem u8Inf : (Try.prog.info? 5).map (·.size) = some 1 := by kernel_rfl
theorem zeroB17 : (Try.prog.info? 108).bind (·.zero) = some (.agg (yC 17 (fun _ => 0))) := by kernel_rfl
/-- The sum with one piece more. -/
def tk (A R N : Nat) : Nat := (A + N) * R % PP
theorem lv_add (h n : Nat → Nat) : lv (fun j => h j + n j) = lv h + lv n := by simp only [lv]; omega
theorem tk_of {h : Nat → Nat} {A R N : Nat} (hA : lv h % PP = A) (hR : R < 1361129467683753853853498429727072845824) (hN : N < 1361129467683753853853498429727072845824) : lv (mu (fun j => h j + lb N j) (lb R)) % PP = tk A R N := by
  rw [lv_mu, lv_add, lv_lb hR, lv_lb hN, ← hA]
  unfold tk
  rw [Nat.mul_mod, Nat.add_mod, ← Nat.add_mod_mod, ← Nat.mul_mod]
  rw [Nat.mul_mod (lv h % PP + N), Nat.mod_add_mod, ← Nat.mul_mod]
  rw [Nat.mul_mod, Nat.add_mod_mod]
  simp [Nat.mul_mod, Nat.add_mod]
set_option maxHeartbeats 8000000 in
set_option maxRecDepth 100000 in
theorem take_s (y A R : Nat) (s : Nat → Nat) (hR : R < 1361129467683753853853498429727072845824) (v : Value) (n size : Nat) (f : Nat → Nat) (hn : n ≤ size) (hs : size ≤ 16) (w : World) (H : Tg w y A R s) (hv : Sz w v n f) :
    Calls Try.prog 35 #[.pointer (some ⟨y, 0, none⟩), v, .int .i64 (size : Int)] w fun e w' => e = .returned (.tuple #[]) ∧ Tg w' y (tk A R (nle f n + 256 ^ size)) R s ∧ Chg w w' [y] := by
  have hf := hv.bd
  have hN := nle_rm f n size hn hs
  have hN1 := nle_lt (b := rm f n size) 17 (fun i _ => rm_lt size hf i)
  have hN2 : nle (rm f n size) 17 < 1361129467683753853853498429727072845824 := by
    rw [nle]
    have h1 := nle_lt (b := rm f n size) 16 (fun i _ => rm_lt size hf i)
    have h2 := rm_16 f n size (by omega)
    have h3 : rm f n size 16 * 256 ^ 16 ≤ 1 * 256 ^ 16 := Nat.mul_le_mul_right _ h2
    simp only [Nat.reducePow] at h1 h3 ⊢
    omega
  rw [← hN]
  obtain ⟨h, B, hm, hA⟩ := H
  have HE : Hid (lv (mu (fun j => h j + lb (nle (rm f n size) 17) j) (lb R)) % PP = tk A R (nle (rm f n size) 17)) := tk_of hA hR hN2
  obtain ⟨N, hNN⟩ : ∃ N, nle (rm f n size) 17 = N := ⟨_, rfl⟩
  have HRS : Hid (∀ g w', Blk w' g (yC 17 (rm f n size)) 108 → Calls Try.prog 67 #[.pointer (some ⟨g, 0, none⟩)] w' fun e v => e = .returned (.agg (vC 5 (lb N))) ∧ Chg w' v []) := fun g w' hb => by
    have q := residueOf_s g (rm f n size) 108 w' (fun i _ => rm_lt size hf i) (rm_16 f n size (by omega)) hb
    rw [hNN] at q; exact q
  rw [hNN] at HE ⊢
  have HB : Hid ((∀ i, i < 5 → h i < 134217728) ∧ y < w.heap.size) := ⟨fun i hi => by
    obtain ⟨h0, h1, h2, h3, h4⟩ := hm
    have hcs : i = 0 ∨ i = 1 ∨ i = 2 ∨ i = 3 ∨ i = 4 := by omega
    rcases hcs with rfl | rfl | rfl | rfl | rfl <;> omega, B.lt⟩
  obtain ⟨p, c', rfl, h1, h2, h3⟩ := hv
  have HV : Hid ((n ≤ size ∧ size ≤ 16) ∧ n ≤ c' ∧ (0 < n → ∃ g o, p = some ⟨g, o, none⟩ ∧ Bs w g o n f)) := ⟨⟨hn, hs⟩, h1, h3⟩
  have hmin : Hid (n = Nat.min n 17) := by show n = Nat.min n 17; have e : Nat.min n 17 = min n 17 := rfl; rw [e]; omega
  have hI : (size : Int) < 17 := by omega
  clear hNN hN2 hN1 hN hA hm h1 h2 h3 hf hn hs hR
  go_enter Try.func35, Try.ntmps35
  go_wp2_with (first
    | (refine copy_y rfl (.tmp 8) (.tmp 9) 26 26 rfl 5 Try.underlying26 u8Inf rb 0 17 17 p n c' rfl rfl #[] 17 (fun _ => 0) #[] 108 (BR.to (by simp)) 0 n f (fun _ => rfl) hmin.out (fun h0 => by obtain ⟨gs, os, e, hb⟩ := HV.out.2.2 h0; exact ⟨gs, os, e, (hb.chg k1 (by simp)).cell⟩) (by have := HV.out; omega) ?_
       intro w2 B2 k2
       replace B2 := B2.to (show #[] ++ (yC 17 (lay (fun _ => 0) 0 n f) ++ #[]) = yC 17 (lay (fun _ => 0) 0 n f) by simp)
       have cx := (B2.cell size).trans (yC_get 17 _ size (by have := HV.out; omega))
       have fx := B2.frozen size)
    | (with_reducible refine alloc_w rfl 108 rfl (.agg (yC 17 (fun _ => 0))) zeroB17 (yC 17 (fun _ => 0)) rfl ?_; intro rb w1 hrb BR k1))
  have B3 : Blk (w2.setCell ⟨rb, size, none⟩ (.int .u8 1)) rb (yC 17 (rm f n size)) 108 := (B2.setCell size (.int .u8 1)).to (yC_set 17 _ size 1)
  have K3 : Chg w (w2.setCell ⟨rb, size, none⟩ (.int .u8 1)) [] := (k1.new k2 hrb).setNew hrb size _
  obtain ⟨w3, hw3⟩ : ∃ z, z = w2.setCell ⟨rb, size, none⟩ (.int .u8 1) := ⟨_, rfl⟩
  rw [← hw3] at B3 K3 ⊢
  clear hw3 cx fx B2 k1 k2 BR
  refine (HRS.out rb w3 B3).mono ?_
  rintro e w4 ⟨rfl, k4⟩
  have K4 : Chg w w4 [] := K3.trans1 k4
  clear B3 K3 k4 hrb
  go_wp2_with (first
    | (refine store_w BN rfl 110 _ _ (vC 5 (lb N)) rfl rfl rfl (by rw [vC_size]; exact rsdInfo) (by rw [vC_size, vC_size]) (vC_one 5 _) ?_; intro w6 BN6 k6)
    | (with_reducible refine alloc_w rfl 110 rfl (.agg (vC 5 (fun _ => 0))) zeroRsd (vC 5 (fun _ => 0)) rfl ?_; intro nb w5 hnb BN k5))
  have HNB : Hid (¬ nb = y ∧ w.heap.size ≤ nb) := ⟨by have := HB.out.2; have := K4.size; omega, by have := K4.size; omega⟩
  have K6 : Chg w w6 [] := (K4.trans1 k5).new k6 HNB.out.2
  have B6 := B.chg K6 (by simp)
  clear B K4 k5 k6 BN hnb
  refine (radd_s y nb h (lb N) (vC 5 (lb R) ++ yC 16 s) 114 (fun i hi => by have := HB.out.1 i hi; omega) (fun i _ => by have := lb_lt N i; omega) w6 B6 BN6 HNB.out.1).mono ?_
  rintro e w7 ⟨rfl, B7, k7⟩
  have K7 : Chg w w7 [y] := K6.wide.trans1 k7
  clear B6 K6 k7 BN6
  go_wp2_with fail
  have B8 := B7.drew
  have K8 := K7.drew
  refine lt_begin (fun w' => True) (fun n => false) (by kernel_rfl) ?_
  obtain ⟨z0, hz⟩ : ∃ z, z = w7.drew := ⟨_, rfl⟩
  rw [← hz] at B8 K8 ⊢
  clear hz B7 K7
  refine lt_val (v := ?_) 0 (some 18) rfl (by kernel_rfl) (by kernel_rfl) (by kernel_rfl) (fun _ _ _ h => h) rfl rfl (fun w => ?_) ?_
  rotate_left
  · (go_simp; try with_reducible rfl)
  try simp only [Act.put, List.setIfInBounds_toArray, List.set_cons_zero, List.set_cons_succ]
  refine lt_val (v := ?_) 1 (some 19) rfl (by kernel_rfl) (by kernel_rfl) (by kernel_rfl) (fun _ _ _ h => h) rfl rfl (fun w => ?_) ?_
  rotate_left
  · (go_simp; try with_reducible rfl)
  try simp only [Act.put, List.setIfInBounds_toArray, List.set_cons_zero, List.set_cons_succ]
  refine lt_val (v := ?_) 2 (some 20) rfl (by kernel_rfl) (by kernel_rfl) (by kernel_rfl) (fun _ _ _ h => h) rfl rfl (fun w => ?_) ?_
  rotate_left
  · (go_simp; try with_reducible rfl)
  try simp only [Act.put, List.setIfInBounds_toArray, List.set_cons_zero, List.set_cons_succ]
  refine lt_val (v := ?_) 3 (some 21) rfl (by kernel_rfl) (by kernel_rfl) (by kernel_rfl) (fun _ _ _ h => h) rfl rfl (fun w => ?_) ?_
  rotate_left
  · (go_simp; try with_reducible rfl)
  try simp only [Act.put, List.setIfInBounds_toArray, List.set_cons_zero, List.set_cons_succ]
  refine lt_val (v := ?_) 4 (some 22) rfl (by kernel_rfl) (by kernel_rfl) (by kernel_rfl) (fun _ _ _ h => h) rfl rfl (fun w => ?_) ?_
  rotate_left
  · (go_simp; try with_reducible rfl)
  try simp only [Act.put, List.setIfInBounds_toArray, List.set_cons_zero, List.set_cons_succ]
  refine lt_val (v := ?_) 5 (some 23) rfl (by kernel_rfl) (by kernel_rfl) (by kernel_rfl) (fun _ _ _ h => h) rfl rfl (fun w => ?_) ?_
  rotate_left
  · (go_simp; try with_reducible rfl)
  try simp only [Act.put, List.setIfInBounds_toArray, List.set_cons_zero, List.set_cons_succ]
  refine lt_one 6 rfl (by kernel_rfl) rfl (fun K hK => ?_)
  go_simp
  refine (mul_s y (fun j => h j + lb N j) (lb R) (yC 16 s) 114 (by decide) (fun i hi => by have := HB.out.1 i hi; have := lb_lt N i; omega) (fun i _ => lb_lt R i) z0 B8).mono ?_
  rintro e w9 ⟨rfl, B9, k9⟩
  go_wp2_with fail
  refine hK.out _ _ (fun _ h => h) ?_
  clear hK K
  try simp only [Act.put, List.setIfInBounds_toArray, List.set_cons_zero, List.set_cons_succ]
  refine lt_done (by kernel_rfl) ?_ _
  have K9 := K8.trans1 k9
  go_wp2_with fail
  go_end0
  exact ⟨rfl, ⟨_, B9, mu_Hm (fun i hi => by have := HB.out.1 i hi; have := lb_lt N i; omega) (fun i _ => lb_lt R i), HE.out⟩, K9⟩
end Go.Proofs.Ytnopkojpgemldaa
