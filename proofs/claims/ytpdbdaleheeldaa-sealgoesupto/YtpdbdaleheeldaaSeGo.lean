/- SealGoes: the walk. -/
import Derived.Test.YtpdbdaleheeldaaSeAp
import Derived.Test.YtpdbdaleheeldaaSeBa
set_option linter.unusedVariables false
set_option linter.unusedSimpArgs false
set_option linter.unnecessarySimpa false
namespace Go.Proofs.Ytpdbdaleheeldaa
open Go.RowKit

theorem i64_and3 (n : Int) : bits .and .i64 n 3 = n % 4 := by
  have h1 : (BitVec.ofInt 64 3).toNat = 2 ^ 2 - 1 := by decide
  have key : (BitVec.ofInt 64 n &&& BitVec.ofInt 64 3).toNat = (n % ((2 ^ 64 : Nat) : Int)).toNat % 2 ^ 2 := by
    rw [BitVec.toNat_and, BitVec.toNat_ofInt, h1, Nat.and_two_pow_sub_one_eq_mod]
  show IntKind.i64.wrap ((BitVec.ofInt 64 n &&& BitVec.ofInt 64 3).toNat : Nat) = n % 4
  rw [key, IntKind.wrap_i64]
  omega
theorem u32_and31 (x : Nat) (h : x < 4294967296) : bits .and .u32 (x : Int) 2147483647 = ((x % 2147483648 : Nat) : Int) := by
  have e := u32_and_nat x 2147483647 h (by omega)
  rw [show x &&& 2147483647 = x % 2147483648 from Nat.and_two_pow_sub_one_eq_mod x 31] at e
  exact e
theorem go_k (n : Int) : ∃ kk : Nat, kk ≤ 3 ∧ bits .and .i64 n 3 = (kk : Int) := ⟨(n % 4).toNat, by omega, by rw [i64_and3]; omega⟩
theorem go_c (n : Int) : ∃ A B ct : Nat, IntKind.u32.wrap n = (A : Int) ∧ IntKind.u32.wrap ((A : Int) * 97) = (B : Int) ∧ bits .and .u32 (B : Int) 2147483647 = (ct : Int) ∧ ct < 2147483648 := by
  obtain ⟨A, hA⟩ : ∃ A : Nat, IntKind.u32.wrap n = (A : Int) := ⟨(n % 4294967296).toNat, by rw [IntKind.wrap_u32]; omega⟩
  obtain ⟨B, hB, hB2⟩ : ∃ B : Nat, IntKind.u32.wrap ((A : Int) * 97) = (B : Int) ∧ B < 4294967296 := ⟨(A * 97) % 4294967296, by rw [IntKind.wrap_u32]; omega, Nat.mod_lt _ (by decide)⟩
  exact ⟨A, B, B % 2147483648, hA, hB, u32_and31 B hB2, Nat.mod_lt _ (by decide)⟩
theorem go_l (kk L : Nat) (h : kk ≤ 3) (hL : 64 * kk = L) : IntKind.i64.wrap (64 * (kk : Int)) = (L : Int) := by rw [IntKind.wrap_i64]; omega
theorem go_e (kk : Nat) (h : kk ≤ 3) : IntKind.u32.wrap (kk : Int) = (kk : Int) := by rw [IntKind.wrap_u32]; omega
theorem go_s (ct kk c : Nat) (h : kk ≤ 3) (hc : ct < 2147483648) (e : ct + kk = c) : IntKind.u32.wrap ((ct : Int) + (kk : Int)) = (c : Int) := by rw [IntKind.wrap_u32]; omega
theorem go_v (c : Nat) (hc : c < 3000000000) : V c := by unfold V; omega
theorem go_n (n : Nat) (hb : n ≤ 2097152) : n ≤ 140737488355456 := by omega
theorem go_q (c n : Nat) (hc : c < 3000000000) (hb : n ≤ 2097152) : c + (n + 63) / 64 ≤ 4294967296 := by omega
theorem box_a {P : Program} {w : World} {ops : Array Oper} {rest : List Oper} {op : Oper} {a : Act} {Q : Exit → Act → World → Prop} (hgd : op.guard = none) (ty : TypeId) (x : Operand) (ho : op.op = .box ty x) (cs : Array Value) (hx : a.eval x = .agg cs)
    (h : ∀ g w', w.heap.size ≤ g → Blk w' g cs ty → Chg w w' [] → wpList P ops Q rest (a.put op.dst (.pointer (some ⟨g, 0, none⟩))) w') : wpList P ops Q (op :: rest) a w := box_w hgd ty x ho cs (by rw [hx]; rfl) h
/-- The stream goes on with the counter. -/
theorem ks_on (k : Nat → Nat) (ct : Nat) (n : Nat → Nat) (K i : Nat) : ks k ct n (64 * K + i) = ks k (ct + K) n i := by
  rw [ks_eq, ks_eq, show (64 * K + i) % 64 = i % 64 by omega, show ct + (64 * K + i) / 64 = ct + K + i / 64 by omega]
set_option maxHeartbeats 16000000 in
set_option maxRecDepth 100000 in
theorem goes_walk (k nn : Nat → Nat) (hk : ∀ i, i < 32 → k i < 256) (hn : ∀ i, i < 12 → nn i < 256) (vO : Value) (n0 : Nat) (f0 : Nat → Nat) (vT : Value) (n1 : Nat) (f1 : Nat → Nat) (vX : Value) (n2 : Nat) (f2 : Nat → Nat) (at' : Int) (by' : Nat) (w : World)
    (h0 : Sz w vO n0 f0) (h1 : Sz w vT n1 f1) (h2 : Sz w vX n2 f2) (b1 : n1 ≤ 1048576) :
    Calls Try.prog 4 #[.agg (caC k nn vO vT vX at' by')] w fun e w' => e = .returned (.bool true) ∧ Chg w w' [] := by
  have HKN : Hid ((∀ i, i < 32 → k i < 256) ∧ ∀ i, i < 12 → nn i < 256) := ⟨hk, hn⟩
  have HS : Hid (Sz w vT n1 f1) := h1
  have HB : Hid (n1 ≤ 1048576) := b1
  have HST : Hid (∀ (w' : World) (v : Value) (n : Nat) (f : Nat → Nat) (c : Nat), c < 3000000000 → Sz w' v n f → n ≤ 2097152 → Calls Try.prog 13 #[.agg (yC 32 k), .int .u32 (c : Int), .agg (yC 12 nn), v] w' fun e w'' => AnsE w' n (xo f (ks k c nn)) e w'') := fun w' v n f c hc h hb => Stream_ok k nn c hk hn (go_v c hc) v n f w' h (go_n n hb) (go_q c n hc hb)
  obtain ⟨kk, hkk, ek⟩ := go_k at'
  obtain ⟨A, Bm, ct, eA, eB, eC, hct⟩ := go_c at'
  obtain ⟨L, hL⟩ : ∃ z, 64 * kk = z := ⟨_, rfl⟩
  have eL : IntKind.i64.wrap (64 * (kk : Int)) = (L : Int) := go_l kk L hkk hL
  obtain ⟨c2', hc2⟩ : ∃ z, ct + kk = z := ⟨_, rfl⟩
  have eK : IntKind.u32.wrap (kk : Int) = (kk : Int) := go_e kk hkk
  have e2c : IntKind.u32.wrap ((ct : Int) + (kk : Int)) = (c2' : Int) := go_s ct kk c2' hkk hct hc2
  have HC : Hid ((kk ≤ 3 ∧ ct < 2147483648) ∧ L = 64 * kk ∧ c2' = ct + kk) := ⟨⟨hkk, hct⟩, hL.symm, hc2.symm⟩
  obtain ⟨p0, c0, e0, _⟩ := id h0
  obtain ⟨p1, c1, e1, _⟩ := id h1
  obtain ⟨p2, c2, e2, _⟩ := id h2
  subst e0 e1 e2
  have HE : Hid ((bits .and .i64 at' 3 = (kk : Int) ∧ IntKind.u32.wrap at' = (A : Int) ∧ IntKind.u32.wrap ((A : Int) * 97) = (Bm : Int) ∧ bits .and .u32 (Bm : Int) 2147483647 = (ct : Int)) ∧ IntKind.i64.wrap (64 * (kk : Int)) = (L : Int) ∧ IntKind.u32.wrap (kk : Int) = (kk : Int) ∧ IntKind.u32.wrap ((ct : Int) + (kk : Int)) = (c2' : Int)) := ⟨⟨ek, eA, eB, eC⟩, eL, eK, e2c⟩
  clear h0 h1 h2 b1 hk hn hkk hct hL hc2 ek eA eB eC eL eK e2c
  go_enter Try.func4, Try.ntmps4
  go_wp2_with (first
    | (with_reducible refine box_a ?_ 28 (.tmp 0) ?_ (caC k nn (.slice p0 n0 c0) (.slice p1 n1 c1) (.slice p2 n2 c2) at' by') ?_ ?_
       · rfl
       · rfl
       · rfl
       intro cb w1 hcb BC k1))
  refine (works_s w1).mono ?_
  rintro e w2 ⟨rfl, k2⟩
  have K2 : Chg w w2 [] := k1.trans1 k2
  have BC2 := BC.chg k2 (by simp)
  have HCB : Hid (w.heap.size ≤ cb) := hcb
  clear k1 k2 BC hcb
  go_wp2_with fail
  refine lt_begin (fun w' => Blk w' cb (caC k nn (.slice p0 n0 c0) (.slice p1 n1 c1) (.slice p2 n2 c2) at' by') 28) (fun _ => false) (by kernel_rfl) ?_
  have hHeld := BC2.drew
  replace K2 := K2.drew
  obtain ⟨z, hz⟩ : ∃ z, z = w2.drew := ⟨_, rfl⟩
  rw [← hz] at hHeld K2 ⊢
  clear hz BC2
  refine lt_val (v := ?_) 0 (some 21) rfl (by kernel_rfl) (by kernel_rfl) (by kernel_rfl) (fun _ _ _ h => h) rfl rfl (fun w => ?_) ?_
  rotate_left
  · (go_simp; try with_reducible rfl)
  try simp only [Act.put, List.setIfInBounds_toArray, List.set_cons_zero, List.set_cons_succ]
  refine lt_read (v := (.agg (yC 32 k))) 1 (some 22) rfl (by kernel_rfl) (by kernel_rfl) (by kernel_rfl) (by kernel_rfl) (fun _ _ _ h => h) rfl rfl (fun w hSw => ?_) hHeld ?_
  · skip; exact (exec_load_m w 23 (.tmp 21) rfl cb 0 rfl (yL 32 k) _ (fun j x hj => by obtain ⟨q1, rfl⟩ := yL_some _ _ _ _ hj; rw [Nat.zero_add, hSw.cell, caC_k _ _ _ _ _ _ _ _ q1]) Try.underlying23 rfl (by rw [yL_len]; exact keyInfo))
  try simp only [Act.put, List.setIfInBounds_toArray, List.set_cons_zero, List.set_cons_succ]
  refine lt_val (v := ?_) 2 (some 23) rfl (by kernel_rfl) (by kernel_rfl) (by kernel_rfl) (fun _ _ _ h => h) rfl rfl (fun w => ?_) ?_
  rotate_left
  · (go_simp; try with_reducible rfl)
  try simp only [Act.put, List.setIfInBounds_toArray, List.set_cons_zero, List.set_cons_succ]
  refine lt_read (v := (.agg (yC 12 nn))) 3 (some 24) rfl (by kernel_rfl) (by kernel_rfl) (by kernel_rfl) (by kernel_rfl) (fun _ _ _ h => h) rfl rfl (fun w hSw => ?_) hHeld ?_
  · skip; exact (exec_load_m w 25 (.tmp 23) rfl cb 32 rfl (yL 12 nn) _ (fun j x hj => by obtain ⟨q1, rfl⟩ := yL_some _ _ _ _ hj; rw [hSw.cell, caC_n _ _ _ _ _ _ _ _ q1]) Try.underlying25 rfl (by rw [yL_len]; exact nonInfo))
  try simp only [Act.put, List.setIfInBounds_toArray, List.set_cons_zero, List.set_cons_succ]
  refine lt_val (v := ?_) 4 (some 25) rfl (by kernel_rfl) (by kernel_rfl) (by kernel_rfl) (fun _ _ _ h => h) rfl rfl (fun w => ?_) ?_
  rotate_left
  · (go_simp; try with_reducible rfl)
  try simp only [Act.put, List.setIfInBounds_toArray, List.set_cons_zero, List.set_cons_succ]
  refine lt_read (v := (.slice p1 n1 c1)) 5 (some 26) rfl (by kernel_rfl) (by kernel_rfl) (by kernel_rfl) (by kernel_rfl) (fun _ _ _ h => h) rfl rfl (fun w hSw => ?_) hHeld ?_
  · have qc := (hSw.cell 45).trans (caC_45 k nn _ _ _ at' by'); (go_simp; try with_reducible rfl)
  try simp only [Act.put, List.setIfInBounds_toArray, List.set_cons_zero, List.set_cons_succ]
  refine lt_two 6 7 rfl rfl (by kernel_rfl) (by kernel_rfl) (by kernel_rfl) rfl rfl (by decide) 23 25 rfl rfl (.agg (yC 32 z0)) (.agg (yC 12 z0)) zeroKey zeroNon (yC 32 z0) (yC 12 z0) rfl rfl 3 4 rfl rfl (by decide) (fun _ _ k h => h.chg k (by simp)) ?_
  intro kb nb w3 hkb hnb hkn BK BN k3
  try simp only [Act.put, List.setIfInBounds_toArray, List.set_cons_zero, List.set_cons_succ]
  refine lt_one 8 rfl (by kernel_rfl) rfl (fun K hK => ?_)
  refine wp_store_w BK 23 _ _ (yC 32 k) rfl rfl rfl (by rw [yC_size]; exact keyInfo) (by rw [yC_size, yC_size]) (yC_one 32 _) ?_
  intro w4 BK4 k4
  change K (Act.put _ none _) _
  have HCC : Hid (¬ cb = kb ∧ ¬ cb = nb) := ⟨by have := hHeld.lt; omega, by have := hHeld.lt; omega⟩
  refine hK.out _ _ (fun _ h => h.chg k4 (by have := HCC.out; simp; omega)) ?_
  clear hK K
  try simp only [Act.put, List.setIfInBounds_toArray, List.set_cons_zero, List.set_cons_succ]
  refine lt_one 9 rfl (by kernel_rfl) rfl (fun K hK => ?_)
  refine wp_store_w (BN.chg k4 (by simp; omega)) 25 _ _ (yC 12 nn) rfl rfl rfl (by rw [yC_size]; exact nonInfo) (by rw [yC_size, yC_size]) (yC_one 12 _) ?_
  intro w5 BN5 k5
  change K (Act.put _ none _) _
  refine hK.out _ _ (fun _ h => h.chg k5 (by have := HCC.out; simp; omega)) ?_
  clear hK K
  try simp only [Act.put, List.setIfInBounds_toArray, List.set_cons_zero, List.set_cons_succ]
  refine lt_val (v := ?_) 10 (some 5) rfl (by kernel_rfl) (by kernel_rfl) (by kernel_rfl) (fun _ _ _ h => h) rfl rfl (fun w => ?_) ?_
  rotate_left
  · (go_simp; try with_reducible rfl)
  try simp only [Act.put, List.setIfInBounds_toArray, List.set_cons_zero, List.set_cons_succ]
  refine lt_done (by kernel_rfl) ?_ _
  have hs1 := K2.size
  have K5 : Chg w w5 [] := ((K2.trans1 k3).new k4 (by omega)).new k5 (by omega)
  have BK5 := BK4.chg k5 (by simp; omega)
  have BC5 := ((hHeld.chg k3 (by simp)).chg k4 (by have := HCC.out; simp; omega)).chg k5 (by have := HCC.out; simp; omega)
  clear K2 k3 k4 k5 BK BN BK4 hHeld hkb hnb hkn hs1 HCC
  have c47 := (BC5.cell 47).trans (caC_47 k nn _ _ _ at' by')
  clear BC5
  obtain ⟨⟨ek, eA, eB, eC⟩, _⟩ := HE.out
  go_wp2_with fail
  clear ek eA eB eC c47
  have eL := HE.out.2.1
  go_loopw [8, 9] (fun t8 t9 wr => ∃ i : Nat, i ≤ L ∧ t9 = .int .i64 (i : Int) ∧ Own wr w5.heap.size t8 i (fun j => j * 7 % 256) ∧ Chg w5 wr []) (fun t8 t9 _ => ((L : Int) - intOf t9).toNat)
  case atStart => exact ⟨0, by omega, rfl, Own.nil _ _ _, Chg.refl _ _⟩
  case round =>
    obtain ⟨i, hi, rfl, O, cw⟩ := hrel
    by_cases h8 : i < L
    · have hI : (i : Int) < (L : Int) := by omega
      have e1 : IntKind.i64.wrap ((i : Int) + 1) = (i : Int) + 1 := by have := HC.out; rw [IntKind.wrap_i64]; omega
      obtain ⟨s7, hs7⟩ : ∃ z, i * 7 = z := ⟨_, rfl⟩
      have e7 : IntKind.i64.wrap ((i : Int) * 7) = (s7 : Int) := by have := HC.out; rw [IntKind.wrap_i64]; omega
      obtain ⟨m7, hm7⟩ : ∃ z, s7 % 256 = z := ⟨_, rfl⟩
      have e8 : IntKind.u8.wrap (s7 : Int) = (m7 : Int) := by rw [IntKind.wrap_u8]; omega
      have HI : Hid ((i < L ∧ i * 7 % 256 = m7) ∧ m7 < 256) := ⟨⟨h8, by rw [hs7, hm7]⟩, by omega⟩
      clear h8 hi hs7 hm7
      obtain ⟨pa, ca, hfa⟩ := O.form2
      subst hfa
      go_wp2_with (first
        | (refine append_zl rfl (.tmp 41) (.tmp 45) rfl w5.heap.size (.slice pa i ca) (.slice (some ⟨gx, 0, none⟩) 1 1) i 1 _ (fun _ => m7) rfl rfl (O.chg kx (by simp)) (BX.szn (fun _ _ => HI.out.2) (by omega)) (by have := HI.out; have := HC.out; omega) (by have := (cw.trans1 kx).size; omega) ?_; intro va wa OA ka)
        | (refine bsl_x rfl (.tmp 44) rfl m7 rfl ?_; intro gx wx hgx BX kx))
      have OA2 : Own wa w5.heap.size va (i + 1) (fun j => j * 7 % 256) := Own.cong OA (fun j hj => by
        unfold cat
        by_cases hj2 : j < i
        · rw [if_pos hj2]
        · rw [if_neg hj2, show j = i by omega]; exact HI.out.1.2.symm)
      have ca2 : Chg w5 wa [] := (cw.trans1 kx).trans ka (by intro q hq; exact Or.inr ((O.chg kx (by simp)).ob_ge q hq).1)
      exact ⟨⟨i + 1, by have := HI.out; omega, by go_num, OA2, ca2⟩, by simp [intOf]; have := HI.out; omega⟩
    · obtain rfl : L = i := by omega
      have hI : ¬ (L : Int) < (L : Int) := by omega
      have K6 : Chg w wr [] := K5.trans1 cw
      have BK6 := BK5.chg cw (by simp)
      have BN6 := BN5.chg cw (by simp)
      obtain ⟨w6, rfl⟩ : ∃ z, z = wr := ⟨wr, rfl⟩
      have HO5 : Hid (w.heap.size ≤ w5.heap.size ∧ kb < w5.heap.size ∧ nb < w5.heap.size) := ⟨K5.size, BK5.lt, BN5.lt⟩
      clear cw K5 BK5 BN5 hi h8
      obtain ⟨pa, ca, hfa⟩ := O.form2
      subst hfa
      go_wp2_with fail
      clear eL
      refine lt_begin (fun w' => Blk w' kb (yC 32 k) 23 ∧ Blk w' nb (yC 12 nn) 25) (fun _ => false) (by kernel_rfl) ?_
      have hHeld := And.intro BK6.drew BN6.drew
      replace K6 := K6.drew
      have OZ := O.chg (w' := w6.drew) ((Chg.refl w6 []).drew) (by simp)
      obtain ⟨z2, hz⟩ : ∃ z, z = w6.drew := ⟨_, rfl⟩
      rw [← hz] at hHeld K6 OZ ⊢
      clear hz BK6 BN6 O
      have SA := OZ.sz
      refine lt_read (v := (.agg (yC 32 k))) 0 (some 48) rfl (by kernel_rfl) (by kernel_rfl) (by kernel_rfl) (by kernel_rfl) (fun _ _ _ h => h) rfl rfl (fun w hSw => ?_) hHeld ?_
      · skip; exact (exec_load_b w 23 (.tmp 3) rfl kb rfl hSw.1 Try.underlying23 rfl (by rw [yC_size]; exact keyInfo))
      try simp only [Act.put, List.setIfInBounds_toArray, List.set_cons_zero, List.set_cons_succ]
      refine lt_val (v := ?_) 1 (some 49) rfl (by kernel_rfl) (by kernel_rfl) (by kernel_rfl) (fun _ _ _ h => h) rfl rfl (fun w => ?_) ?_
      rotate_left
      · (go_simp; try with_reducible rfl)
      try simp only [Act.put, List.setIfInBounds_toArray, List.set_cons_zero, List.set_cons_succ]
      refine lt_read (v := (.agg (yC 12 nn))) 2 (some 50) rfl (by kernel_rfl) (by kernel_rfl) (by kernel_rfl) (by kernel_rfl) (fun _ _ _ h => h) rfl rfl (fun w hSw => ?_) hHeld ?_
      · skip; exact (exec_load_b w 25 (.tmp 4) rfl nb rfl hSw.2 Try.underlying25 rfl (by rw [yC_size]; exact nonInfo))
      try simp only [Act.put, List.setIfInBounds_toArray, List.set_cons_zero, List.set_cons_succ]
      refine lt_val (v := ?_) 3 (some 51) rfl (by kernel_rfl) (by kernel_rfl) (by kernel_rfl) (fun _ _ _ h => h) rfl rfl (fun w => ?_) ?_
      rotate_left
      · (go_simp; try with_reducible rfl)
      try simp only [Act.put, List.setIfInBounds_toArray, List.set_cons_zero, List.set_cons_succ]
      refine lt_val (v := ?_) 5 (some 53) rfl (by kernel_rfl) (by kernel_rfl) (by kernel_rfl) (fun _ _ _ h => h) rfl rfl (fun w => ?_) ?_
      rotate_left
      · (go_simp; try with_reducible rfl)
      try simp only [Act.put, List.setIfInBounds_toArray, List.set_cons_zero, List.set_cons_succ]
      refine lt_one 4 rfl (by kernel_rfl) rfl (fun K hK => ?_)
      go_simp
      refine (CopyBytes_z _ L _ z2 (by have := HC.out; omega) SA).mono ?_
      rintro e w7 ⟨vc, rfl, OC, k7⟩
      obtain ⟨pc, cc, hfc⟩ := OC.form2
      subst hfc
      go_wp2_with fail
      refine hK.out _ _ (fun _ h => ⟨h.1.chg k7 (by simp), h.2.chg k7 (by simp)⟩) ?_
      clear hK K
      try simp only [Act.put, List.setIfInBounds_toArray, List.set_cons_zero, List.set_cons_succ]
      refine lt_one 6 rfl (by kernel_rfl) rfl (fun K hK => ?_)
      have HZ2 : Hid (kb < z2.heap.size ∧ nb < z2.heap.size) := ⟨hHeld.1.lt, hHeld.2.lt⟩
      refine append_zo (.tmp 52) (.tmp 53) rfl z2.heap.size (.slice pc L cc) (.slice p1 n1 c1) L n1 _ f1 rfl rfl OC (HS.out.kept (K6.trans1 k7)) (by have := HC.out; have := HB.out; omega) (by have := k7.size; omega) ?_
      intro va w8 OA k8
      change K (Act.put _ (some 54) _) _
      have k78 : Chg z2 w8 [] := k7.trans k8 (by intro q hq; exact Or.inr (OC.ob_ge q hq).1)
      obtain ⟨pd, cd, hfd⟩ := OA.form2
      subst hfd
      refine hK.out _ _ (fun _ h => ⟨h.1.chg k8 (fun hm => by have := (OC.ob_ge _ hm).1; have := HZ2.out; omega), h.2.chg k8 (fun hm => by have := (OC.ob_ge _ hm).1; have := HZ2.out; omega)⟩) ?_
      clear hK K
      try simp only [Act.put, List.setIfInBounds_toArray, List.set_cons_zero, List.set_cons_succ]
      refine lt_one 7 rfl (by kernel_rfl) rfl (fun K hK => ?_)
      go_simp
      refine (HST.out w8 _ (L + n1) _ ct (by have := HC.out; omega) OA.sz (by have := HC.out; have := HB.out; omega)).mono ?_
      rintro e w9 ⟨g1, rfl, hg1, B1, k9⟩
      go_wp2_with fail
      refine hK.out _ _ (fun _ h => ⟨h.1.chg k9 (by simp), h.2.chg k9 (by simp)⟩) ?_
      clear hK K
      try simp only [Act.put, List.setIfInBounds_toArray, List.set_cons_zero, List.set_cons_succ]
      refine lt_val (v := ?_) 8 (some 47) rfl (by kernel_rfl) (by kernel_rfl) (by kernel_rfl) (fun _ _ _ h => h) rfl rfl (fun w => ?_) ?_
      rotate_left
      · (go_simp; try with_reducible rfl)
      try simp only [Act.put, List.setIfInBounds_toArray, List.set_cons_zero, List.set_cons_succ]
      refine lt_val (v := ?_) 9 (some 56) rfl (by kernel_rfl) (by kernel_rfl) (by kernel_rfl) (fun _ _ _ h => h) rfl rfl (fun w => ?_) ?_
      rotate_left
      · (go_simp; try with_reducible rfl)
      try simp only [Act.put, List.setIfInBounds_toArray, List.set_cons_zero, List.set_cons_succ]
      refine lt_val (v := ?_) 10 (some 57) rfl (by kernel_rfl) (by kernel_rfl) (by kernel_rfl) (fun _ _ _ h => h) rfl rfl (fun w => ?_) ?_
      rotate_left
      · (go_simp; try with_reducible rfl)
      try simp only [Act.put, List.setIfInBounds_toArray, List.set_cons_zero, List.set_cons_succ]
      refine lt_val (v := ?_) 11 (some 10) rfl (by kernel_rfl) (by kernel_rfl) (by kernel_rfl) (fun _ _ _ h => h) rfl rfl (fun w => ?_) ?_
      rotate_left
      · (go_simp; try with_reducible rfl)
      try simp only [Act.put, List.setIfInBounds_toArray, List.set_cons_zero, List.set_cons_succ]
      refine lt_val (v := ?_) 12 (some 11) rfl (by kernel_rfl) (by kernel_rfl) (by kernel_rfl) (fun _ _ _ h => h) rfl rfl (fun w => ?_) ?_
      rotate_left
      · (go_simp; try with_reducible rfl)
      try simp only [Act.put, List.setIfInBounds_toArray, List.set_cons_zero, List.set_cons_succ]
      refine lt_done (by kernel_rfl) ?_ _
      have k29 : Chg z2 w9 [] := k78.trans1 k9
      have K9 : Chg w w9 [] := K6.trans1 k29
      have BK9 := hHeld.1.chg k29 (by simp)
      have BN9 := hHeld.2.chg k29 (by simp)
      have SA9 := SA.kept k29
      clear hHeld K6 OZ SA OC OA k7 k8 k9 k78 k29 hg1 HZ2
      go_wp2_with (first
        | (with_reducible refine load_b BN9 25 (.tmp 4) Try.underlying25 ?_ ?_ ?_ ?_ ?_ ?_
           · rfl
           · rfl
           · rfl
           · rfl
           · (rw [yC_size]; exact nonInfo))
        | (with_reducible refine load_b BK9 23 (.tmp 3) Try.underlying23 ?_ ?_ ?_ ?_ ?_ ?_
           · rfl
           · rfl
           · rfl
           · rfl
           · (rw [yC_size]; exact keyInfo)))
      have HL : Hid (L ≤ 192 ∧ L + n1 ≤ 1048768) := ⟨by have := HC.out; omega, by have := HC.out; have := HB.out; omega⟩
      refine (HST.out w9 _ L _ ct (by have := HC.out; omega) SA9 (by have := HL.out; omega)).mono ?_
      rintro e w10 ⟨g2, rfl, hg2, B2, k10⟩
      have HG12a : Hid (¬ g1 = g2 ∧ g2 < w10.heap.size) := ⟨by have := B1.lt; omega, B2.lt⟩
      have HG2 : Hid (w.heap.size ≤ g2) := by have := K9.size; show w.heap.size ≤ g2; omega
      have K10 : Chg w w10 [] := K9.trans1 k10
      have BK10 := BK9.chg k10 (by simp)
      have BN10 := BN9.chg k10 (by simp)
      have B1_10 := B1.chg k10 (by simp)
      clear K9 k10 BK9 BN9 B1 SA9 hg2
      obtain ⟨_, _, eK, e2c⟩ := HE.out
      go_wp2_with (first
        | (with_reducible refine load_b BN10 25 (.tmp 4) Try.underlying25 ?_ ?_ ?_ ?_ ?_ ?_
           · rfl
           · rfl
           · rfl
           · rfl
           · (rw [yC_size]; exact nonInfo))
        | (with_reducible refine load_b BK10 23 (.tmp 3) Try.underlying23 ?_ ?_ ?_ ?_ ?_ ?_
           · rfl
           · rfl
           · rfl
           · rfl
           · (rw [yC_size]; exact keyInfo)))
      clear eK e2c
      refine (HST.out w10 _ n1 f1 c2' (by have := HC.out; omega) (HS.out.kept K10) (by have := HB.out; omega)).mono ?_
      rintro e w11 ⟨g3, rfl, hg3, B3, k11⟩
      have B2_11 := B2.chg k11 (by simp)
      have K11 : Chg w w11 [] := K10.trans1 k11
      have BK11 := BK10.chg k11 (by simp)
      have BN11 := BN10.chg k11 (by simp)
      have B1_11 := B1_10.chg k11 (by simp)
      clear K10 k11 BK10 BN10 B1_10
      clear B2 hg3
      go_wp2_with fail
      refine lt_begin (fun w' => Blk w' kb (yC 32 k) 23 ∧ Blk w' nb (yC 12 nn) 25) (fun _ => false) (by kernel_rfl) ?_
      have hHeld := And.intro BK11.drew BN11.drew
      replace K11 := K11.drew
      replace B1_11 := B1_11.drew
      replace B2_11 := B2_11.drew
      replace B3 := B3.drew
      obtain ⟨z3, hz⟩ : ∃ z, z = w11.drew := ⟨_, rfl⟩
      rw [← hz] at hHeld K11 B1_11 B2_11 B3 ⊢
      clear hz BK11 BN11
      refine lt_read (v := (.agg (yC 32 k))) 0 (some 78) rfl (by kernel_rfl) (by kernel_rfl) (by kernel_rfl) (by kernel_rfl) (fun _ _ _ h => h) rfl rfl (fun w hSw => ?_) hHeld ?_
      · skip; exact (exec_load_b w 23 (.tmp 3) rfl kb rfl hSw.1 Try.underlying23 rfl (by rw [yC_size]; exact keyInfo))
      try simp only [Act.put, List.setIfInBounds_toArray, List.set_cons_zero, List.set_cons_succ]
      refine lt_val (v := ?_) 1 (some 79) rfl (by kernel_rfl) (by kernel_rfl) (by kernel_rfl) (fun _ _ _ h => h) rfl rfl (fun w => ?_) ?_
      rotate_left
      · (go_simp; try with_reducible rfl)
      try simp only [Act.put, List.setIfInBounds_toArray, List.set_cons_zero, List.set_cons_succ]
      refine lt_read (v := (.agg (yC 12 nn))) 2 (some 80) rfl (by kernel_rfl) (by kernel_rfl) (by kernel_rfl) (by kernel_rfl) (fun _ _ _ h => h) rfl rfl (fun w hSw => ?_) hHeld ?_
      · skip; exact (exec_load_b w 25 (.tmp 4) rfl nb rfl hSw.2 Try.underlying25 rfl (by rw [yC_size]; exact nonInfo))
      try simp only [Act.put, List.setIfInBounds_toArray, List.set_cons_zero, List.set_cons_succ]
      refine lt_one 3 rfl (by kernel_rfl) rfl (fun K hK => ?_)
      refine make_z (.const (.int .i64 64)) (.const (.int .i64 64)) rfl 64 rfl rfl (by omega) ?_
      intro gm w12 hgm BM k12
      change K (Act.put _ (some 81) _) _
      refine hK.out _ _ (fun _ h => ⟨h.1.chg k12 (by simp), h.2.chg k12 (by simp)⟩) ?_
      clear hK K
      try simp only [Act.put, List.setIfInBounds_toArray, List.set_cons_zero, List.set_cons_succ]
      refine lt_one 4 rfl (by kernel_rfl) rfl (fun K hK => ?_)
      go_simp
      refine (HST.out w12 _ 64 _ ct (by have := HC.out; omega) (BM.szn (fun _ _ => by decide) (by omega)) (by omega)).mono ?_
      rintro e w13 ⟨g4, rfl, hg4, B4, k13⟩
      go_wp2_with fail
      refine hK.out _ _ (fun _ h => ⟨h.1.chg k13 (by simp), h.2.chg k13 (by simp)⟩) ?_
      clear hK K
      try simp only [Act.put, List.setIfInBounds_toArray, List.set_cons_zero, List.set_cons_succ]
      refine lt_val (v := ?_) 5 (some 77) rfl (by kernel_rfl) (by kernel_rfl) (by kernel_rfl) (fun _ _ _ h => h) rfl rfl (fun w => ?_) ?_
      rotate_left
      · (go_simp; try with_reducible rfl)
      try simp only [Act.put, List.setIfInBounds_toArray, List.set_cons_zero, List.set_cons_succ]
      refine lt_val (v := ?_) 6 (some 83) rfl (by kernel_rfl) (by kernel_rfl) (by kernel_rfl) (fun _ _ _ h => h) rfl rfl (fun w => ?_) ?_
      rotate_left
      · (go_simp; try with_reducible rfl)
      try simp only [Act.put, List.setIfInBounds_toArray, List.set_cons_zero, List.set_cons_succ]
      refine lt_val (v := ?_) 7 (some 84) rfl (by kernel_rfl) (by kernel_rfl) (by kernel_rfl) (fun _ _ _ h => h) rfl rfl (fun w => ?_) ?_
      rotate_left
      · (go_simp; try with_reducible rfl)
      try simp only [Act.put, List.setIfInBounds_toArray, List.set_cons_zero, List.set_cons_succ]
      refine lt_val (v := ?_) 8 (some 16) rfl (by kernel_rfl) (by kernel_rfl) (by kernel_rfl) (fun _ _ _ h => h) rfl rfl (fun w => ?_) ?_
      rotate_left
      · (go_simp; try with_reducible rfl)
      try simp only [Act.put, List.setIfInBounds_toArray, List.set_cons_zero, List.set_cons_succ]
      refine lt_val (v := ?_) 9 (some 17) rfl (by kernel_rfl) (by kernel_rfl) (by kernel_rfl) (fun _ _ _ h => h) rfl rfl (fun w => ?_) ?_
      rotate_left
      · (go_simp; try with_reducible rfl)
      try simp only [Act.put, List.setIfInBounds_toArray, List.set_cons_zero, List.set_cons_succ]
      refine lt_done (by kernel_rfl) ?_ _
      have k33 : Chg z3 w13 [] := k12.trans1 k13
      have K13 : Chg w w13 [] := K11.trans1 k33
      have BK13 := hHeld.1.chg k33 (by simp)
      have BN13 := hHeld.2.chg k33 (by simp)
      have B1_13 := B1_11.chg k33 (by simp)
      have B2_13 := B2_11.chg k33 (by simp)
      have B3_13 := B3.chg k33 (by simp)
      have HGG : Hid (¬ g1 = g2 ∧ ¬ g4 = g2) := ⟨HG12a.out.1, by have := B2_11.lt; have := k12.size; omega⟩
      clear hHeld K11 B1_11 B2_11 B3 k12 k13 k33 hgm hg4 BM
      go_wp2_with (first
        | (with_reducible refine load_b BN13 25 (.tmp 4) Try.underlying25 ?_ ?_ ?_ ?_ ?_ ?_
           · rfl
           · rfl
           · rfl
           · rfl
           · (rw [yC_size]; exact nonInfo))
        | (with_reducible refine load_b BK13 23 (.tmp 3) Try.underlying23 ?_ ?_ ?_ ?_ ?_ ?_
           · rfl
           · rfl
           · rfl
           · rfl
           · (rw [yC_size]; exact keyInfo)))
      refine (Block_s k ct nn HKN.out.1 HKN.out.2 (by have := HC.out; unfold V; omega) w13).mono ?_
      rintro e w14 ⟨rfl, k14⟩
      have B2_14 := B2_13.chg k14 (by simp)
      have B3_14 := B3_13.chg k14 (by simp)
      have B4_14 := B4.chg k14 (by simp)
      have K14 : Chg w w14 [] := K13.trans1 k14
      have BK14 := BK13.chg k14 (by simp)
      have BN14 := BN13.chg k14 (by simp)
      have B1_14 := B1_13.chg k14 (by simp)
      clear K13 k14 BK13 BN13 B1_13
      clear B2_13 B3_13 B4 BK14 BN14
      have HXL : Hid ((∀ i, i < L → xo (fun j => j * 7 % 256) (ks k ct nn) i < 256) ∧ (∀ i, i < n1 → xo f1 (ks k c2' nn) i < 256) ∧ (∀ i, i < 64 → xo (fun _ => 0) (ks k ct nn) i < 256) ∧ (∀ i, i < L + n1 → xo (cat (fun j => j * 7 % 256) L f1) (ks k ct nn) i < 256)) := ⟨xo_lt (fun i _ => Nat.mod_lt _ (by decide)) (ks_lt k ct nn), xo_lt HS.out.bd (ks_lt k c2' nn), xo_lt (fun _ _ => by decide) (ks_lt k ct nn), xo_lt (fun i hi => by
        unfold cat
        split
        · exact Nat.mod_lt _ (by decide)
        · exact HS.out.bd _ (by omega)) (ks_lt k ct nn)⟩
      have HCT : Hid (∀ i, i < L + n1 → cat (xo (fun j => j * 7 % 256) (ks k ct nn)) L (xo f1 (ks k c2' nn)) i = xo (cat (fun j => j * 7 % 256) L f1) (ks k ct nn) i) := fun i hi => by
        unfold xo cat
        by_cases h : i < L
        · rw [if_pos h, if_pos h]
        · rw [if_neg h, if_neg h]
          have hc := HC.out
          have e := ks_on k ct nn kk (i - L)
          rw [show 64 * kk + (i - L) = i by omega, show ct + kk = c2' by omega] at e
          rw [e]
      have HZB : Hid (∀ i, i < 64 → xo (fun _ => 0) (ks k ct nn) i = bkB (st0 k ct nn) i) := fun i hi => by
        have hc := HC.out
        show 0 ^^^ ks k ct nn i = _
        rw [Nat.zero_xor, ks_eq, show i % 64 = i by omega, show (ct + i / 64) % 4294967296 = ct by omega]
      obtain ⟨X1, hX1⟩ : ∃ X, xo (cat (fun j => j * 7 % 256) L f1) (ks k ct nn) = X := ⟨_, rfl⟩
      obtain ⟨X2, hX2⟩ : ∃ X, xo (fun j => j * 7 % 256) (ks k ct nn) = X := ⟨_, rfl⟩
      obtain ⟨X3, hX3⟩ : ∃ X, xo f1 (ks k c2' nn) = X := ⟨_, rfl⟩
      obtain ⟨X4, hX4⟩ : ∃ X, xo (fun _ => 0) (ks k ct nn) = X := ⟨_, rfl⟩
      obtain ⟨X5, hX5⟩ : ∃ X, bkB (st0 k ct nn) = X := ⟨_, rfl⟩
      rw [hX1] at HXL HCT B1_14
      rw [hX2] at HXL HCT B2_14
      rw [hX3] at HXL HCT B3_14
      rw [hX4] at HXL HZB B4_14
      rw [hX5] at HZB ⊢
      clear hX1 hX2 hX3 hX4 hX5
      go_wp2_with (first
        | (refine append_zl rfl (.tmp 105) (.tmp 106) rfl w.heap.size (.slice (some ⟨g2, 0, none⟩) L L) (.slice (some ⟨g3, 0, none⟩) n1 n1) L n1 X2 X3 rfl rfl (Own.blk ((B2_14.chg k15 (by simp)).chg k16 (by have := HBB.out; simp; omega)) HXL.out.1 HG2.out (by have := HL.out; omega)) (((B3_14.chg k15 (by simp)).chg k16 (by have := HBB.out; simp; omega)).szn HXL.out.2.1 (by have := HB.out; omega)) (by have := HL.out; omega) (by have := ((K14.trans1 k15).wide (l := [bb])).size; have := k16.size; omega) ?_; intro vq w17 OQ k17)
        | (refine store_w BB rfl 39 _ _ (yC 64 X5) rfl rfl rfl (by rw [yC_size]; exact b64Info) (by rw [yC_size, yC_size]) (yC_one 64 _) ?_; intro w16 BB16 k16; have HBB : Hid ((¬ bb = g1 ∧ ¬ bb = g2 ∧ ¬ bb = g3 ∧ ¬ bb = g4) ∧ w.heap.size ≤ bb) := ⟨⟨by have := B1_14.lt; omega, by have := B2_14.lt; omega, by have := B3_14.lt; omega, by have := B4_14.lt; omega⟩, by have := K14.size; omega⟩)
        | (with_reducible refine alloc_w rfl 39 rfl (.agg (yC 64 (fun _ => 0))) zeroB64 (yC 64 (fun _ => 0)) rfl ?_; intro bb w15 hbb BB k15))
      have K16 : Chg w w16 [] := (K14.trans1 k15).new k16 HBB.out.2
      have K17 : Chg w w17 [] := K16.trans k17 (by intro q hq; exact Or.inr (by simp [ob, Value.ownBlock] at hq; subst hq; exact HG2.out))
      have HG12 : Hid (¬ g1 = g2 ∧ ¬ g4 = g2 ∧ ¬ bb = g2) := ⟨HGG.out.1, HGG.out.2, HBB.out.1.2.1⟩
      have B1_17 := ((B1_14.chg k15 (by simp)).chg k16 (by have := HBB.out; simp; omega)).chg k17 (by have := HG12.out; simp [ob, Value.ownBlock]; omega)
      have B4_17 := ((B4_14.chg k15 (by simp)).chg k16 (by have := HBB.out; simp; omega)).chg k17 (by have := HG12.out; simp [ob, Value.ownBlock]; omega)
      have BB17 := BB16.chg k17 (by have := HG12.out; simp [ob, Value.ownBlock]; omega)
      clear K14 K16 k15 k16 k17 B1_14 B2_14 B3_14 B4_14 BB BB16 hbb
      have q := SameBytes_z (.slice (some ⟨g1, 0, none⟩) (L + n1) (L + n1)) (L + n1) X1 vq (L + n1) (cat X2 L X3) w17 (B1_17.szn HXL.out.2.2.2 (by have := HL.out; omega)) OQ.sz
      rw [sameB_self (fun i hi => (HCT.out i hi).symm)] at q
      refine q.mono ?_
      clear q
      rintro e w18 ⟨rfl, k18⟩
      have K18 : Chg w w18 [] := K17.trans1 k18
      have B4_18 := B4_17.chg k18 (by simp)
      have BB18 := BB17.chg k18 (by simp)
      clear K17 k18 B1_17 B4_17 BB17 OQ
      go_wp2_with fail
      have q := SameBytes_z (.slice (some ⟨g4, 0, none⟩) 64 64) 64 X4 (.slice (some ⟨bb, 0, none⟩) 64 64) 64 X5 w18 (B4_18.szn HXL.out.2.2.1 (by omega)) (BB18.szn (fun i hi => by rw [← HZB.out i hi]; exact HXL.out.2.2.1 i hi) (by omega))
      rw [sameB_self HZB.out] at q
      refine q.mono ?_
      clear q
      rintro e w19 ⟨rfl, k19⟩
      go_wp2_with fail
      go_ret
      exact ⟨rfl, K18.trans1 k19⟩
end Go.Proofs.Ytpdbdaleheeldaa
