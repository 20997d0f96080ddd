/- seal: Open. -/
import Derived.Test.YtnopkojpgemldaaSeZb
import Derived.Test.YtnopkojpgemldaaSeSp
set_option linter.unusedVariables false
set_option linter.unusedSimpArgs false
set_option linter.unnecessarySimpa false
namespace Go.Proofs.Ytnopkojpgemldaa
open Go.RowKit

theorem u8InfoZ : ∃ i, Try.prog.info? 5 = some i := Option.isSome_iff_exists.1 (by kernel_rfl)
theorem u8CellsZ : Try.prog.cellsOf 5 = 1 := by kernel_rfl
/-- Are n bytes the same? -/
def eqn (n : Nat) (f g : Nat → Nat) : Bool := (List.range n).all fun i => ((f i : Nat) : Int) == ((g i : Nat) : Int)
theorem eqn_iff (n : Nat) (f g : Nat → Nat) : eqn n f g = true ↔ ∀ i, i < n → f i = g i := by
  simp [eqn, Int.natCast_inj]
theorem eqn_no {n : Nat} {f g : Nat → Nat} (h : ¬ ∀ i, i < n → f i = g i) : eqn n f g = false := by
  have := eqn_iff n f g
  cases e : eqn n f g
  · rfl
  · exact absurd (this.1 e) h
@[go_sem] theorem eq_tag (f g : Nat → Nat) (w : World) : (Op.equalIn 10000 43 (.agg (yC 16 f)) (.agg (yC 16 g))).run Try.prog w = .ok (eqn 16 f g) w := by
  obtain ⟨i, hi⟩ := u8InfoZ
  rw [show (10000 : Nat) = 9998 + 1 + 1 from rfl, run_equalIn_array w 9999 _ _ Try.underlying43 hi, u8CellsZ]
  exact eqItems_ints w 9998 Try.underlying5 _ _ (fun i => ((f i : Nat) : Int)) (fun i => ((g i : Nat) : Int)) (List.range 16) (fun j hj => ⟨yC_get 16 f j (by simpa using hj), yC_get 16 g j (by simpa using hj)⟩)
theorem exec_load_b {P : Program} {op : Oper} {a : Act} (w : World) (ty : TypeId) (x : Operand) (ho : op.op = .load ty x) (g : Nat) (hx : a.eval x = .pointer (some ⟨g, 0, none⟩)) {cs : Array Value} {t : TypeId} (hg : Blk w g cs t) {d : TypeDesc} (hu : P.underlying ty = some d) (hd : d.isRow = true) (hi : (P.info? ty).map (·.size) = some cs.size) :
    (execOp a.eval op).run P w = .ok (.value (.agg cs)) w := by
  have h := exec_load_m (P := P) w ty x ho g 0 hx cs.toList d (fun j v hj => by rw [Nat.zero_add, hg.cell]; simpa using hj) hu hd (by simpa using hi)
  simpa using h
set_option maxHeartbeats 8000000 in
set_option maxRecDepth 100000 in
theorem Open_short (k nn : Nat → Nat) (v0 v1 : Value) (n1 : Nat) (f1 : Nat → Nat) (w : World) (hv1 : Sz w v1 n1 f1) (hs : n1 < 16) :
    Calls Try.prog 11 #[.agg (yC 32 k), .agg (yC 12 nn), v0, v1] w fun e w' => e = .returned (.tuple #[.slice none 0 0, .int .i64 3]) ∧ Chg w w' [] := by
  obtain ⟨p1, c1, e1, _⟩ := id hv1
  subst e1
  have hI : (n1 : Int) < 16 := by omega
  clear hv1 hs
  go_enter Try.func11, Try.ntmps11
  go_wp2_with (first
    | (refine box_w rfl 25 _ rfl (yC 12 nn) rfl ?_; intro nb w2 hnb BN k2)
    | (refine box_w rfl 23 _ rfl (yC 32 k) rfl ?_; intro kb w1 hkb BK k1))
  go_ret2
  exact ⟨rfl, k1.trans1 k2⟩
/-- Does the tag stand there? -/
def tagged (k nn : Nat → Nat) (n0 : Nat) (f0 : Nat → Nat) (N : Nat) (f : Nat → Nat) : Bool := eqn 16 (fun i => f (N + i)) (tagT k nn n0 f0 N f)
/-- What Open answers for 16 bytes and more. -/
def OpQ (w : World) (b : Bool) (N : Nat) (F : Nat → Nat) (e : Ending) (w' : World) : Prop := (b = true ∧ AnsE w N F e w') ∨ (b = false ∧ e = .returned (.tuple #[.slice none 0 0, .int .i64 121]) ∧ Chg w w' [])
set_option maxHeartbeats 8000000 in
set_option maxRecDepth 100000 in
theorem Open_s (k nn : Nat → Nat) (hk : ∀ i, i < 32 → k i < 256) (hn : ∀ i, i < 12 → nn i < 256) (v0 : Value) (n0 : Nat) (f0 : Nat → Nat) (v1 : Value) (N : Nat) (f : Nat → Nat) (w : World)
    (hv0 : Sz w v0 n0 f0) (hv1 : Sz w v1 (N + 16) f) (hm : N ≤ 140737488355456) :
    Calls Try.prog 11 #[.agg (yC 32 k), .agg (yC 12 nn), v0, v1] w fun e w' => OpQ w (tagged k nn n0 f0 N f) N (xo f (ks k 1 nn)) e w' := by
  have HBG : Hid (∀ w, Calls Try.prog 31 #[.agg (yC 32 k), .int .u32 1, .agg (yC 12 nn)] w fun e w' => e = .returned (.agg (tC 16 (st0 k 1 nn))) ∧ Chg w w' []) := fun w => begun_s k 1 nn hk hn w
  have HVS : Hid (V16 (st0 k 1 nn)) := st0_V hk hn (by unfold V; omega)
  have HKN : Hid ((∀ i, i < 32 → k i < 256) ∧ ∀ i, i < 12 → nn i < 256) := ⟨hk, hn⟩
  have HKS : Hid (xo f (ksS (st0 k 1 nn)) = xo f (ks k 1 nn)) := rfl
  obtain ⟨X, hX⟩ : ∃ X, xo f (ks k 1 nn) = X := ⟨_, rfl⟩
  obtain ⟨S, hS⟩ : ∃ S, st0 k 1 nn = S := ⟨_, rfl⟩
  rw [hX] at HKS ⊢
  rw [hS] at HBG HVS HKS
  obtain ⟨p1, c, e1, h1, h2, h3⟩ := hv1
  subst e1
  obtain ⟨g, o, rfl, hb⟩ := h3 (by omega)
  have HB : Hid (Bs w g o (N + 16) f ∧ N + 16 ≤ c ∧ c ≤ 9223372036854775807) := ⟨hb, h1, h2⟩
  have HS1 : Hid (Sz w (.slice (some ⟨g, o, none⟩) N c) N f ∧ Sz w v0 n0 f0) := ⟨⟨_, c, rfl, by omega, h2, fun _ => ⟨g, o, rfl, hb.lt, fun i hi => hb.bd i (by omega), fun i hi => hb.cell i (by omega)⟩⟩, hv0⟩
  have HTG : Hid (tagged k nn n0 f0 N f = eqn 16 (fun i => f (N + i)) (tagT k nn n0 f0 N f)) := rfl
  obtain ⟨b, hbb⟩ : ∃ b, tagged k nn n0 f0 N f = b := ⟨_, rfl⟩
  rw [hbb] at HTG ⊢
  obtain ⟨TS, hTS⟩ : ∃ T, (fun i => f (N + i)) = T := ⟨_, rfl⟩
  have HSP := fun w' (h : Bs w' g o (N + 16) f) => split_s g o N c f w' h h1 h2
  rw [hTS] at HTG HSP
  obtain ⟨TT, hTT⟩ : ∃ T, tagT k nn n0 f0 N f = T := ⟨_, rfl⟩
  have HTO := fun w' h0 h1 => tagOf_s k nn hk hn v0 n0 f0 (.slice (some ⟨g, o, none⟩) N c) N f w' h0 h1
  rw [hTT] at HTG HTO
  obtain ⟨n, hnn⟩ : ∃ n, N + 16 = n := ⟨_, rfl⟩
  rw [hnn] at HSP HB ⊢
  have HSP' : Hid (∀ w', Bs w' g o n f → _) := HSP
  have HTO' : Hid (∀ w', Sz w' v0 n0 f0 → Sz w' (.slice (some ⟨g, o, none⟩) N c) N f → _) := HTO
  have HM : Hid (N ≤ 140737488355456) := hm
  have hI : ¬ (n : Int) < 16 := by omega
  clear hk hn hv0 h1 h2 h3 hb hX hS hbb hTS hTT hnn hm HSP HTO
  go_enter Try.func11, Try.ntmps11
  go_wp2_with (first
    | (refine box_w rfl 25 _ rfl (yC 12 nn) rfl ?_; intro nb w2 hnb BN k2)
    | (refine box_w rfl 23 _ rfl (yC 32 k) rfl ?_; intro kb w1 hkb BK k1))
  have K2 : Chg w w2 [] := k1.trans1 k2
  have BK2 := BK.chg k2 (by simp)
  clear k1 k2 BK hkb hnb
  refine (HSP'.out w2 (HB.out.1.chg K2 (by simp))).mono ?_
  rintro e w3 ⟨rfl, k3⟩
  have K3 : Chg w w3 [] := K2.trans1 k3
  have BK3 := BK2.chg k3 (by simp)
  have BN3 := BN.chg k3 (by simp)
  clear K2 BK2 BN k3
  go_wp2_with (first
    | (refine store_w BS rfl 43 _ _ (yC 16 TS) rfl rfl rfl (by rw [yC_size]; exact tagInfo) (by rw [yC_size, yC_size]) (yC_one 16 _) ?_; intro w5 BS5 k5)
    | (with_reducible refine alloc_w rfl 43 rfl (.agg (yC 16 (fun _ => 0))) zeroTag (yC 16 (fun _ => 0)) rfl ?_; intro sb w4 hsb BS k4))
  have HO : Hid ((¬ sb = kb ∧ ¬ sb = nb) ∧ w.heap.size ≤ sb) := ⟨⟨by have := BK3.lt; omega, by have := BN3.lt; omega⟩, by have := K3.size; omega⟩
  have K5 : Chg w w5 [] := (K3.trans1 k4).new k5 HO.out.2
  have BK5 := (BK3.chg k4 (by simp)).chg k5 (by have := HO.out; simp; omega)
  have BN5 := (BN3.chg k4 (by simp)).chg k5 (by have := HO.out; simp; omega)
  clear K3 BK3 BN3 k4 k5 BS hsb
  refine lt_begin (fun w' => (Blk w' sb (yC 16 TS) 43 ∧ Blk w' kb (yC 32 k) 23) ∧ Blk w' nb (yC 12 nn) 25) (fun _ => false) (by kernel_rfl) ?_
  have hHeld := And.intro (And.intro BS5.drew BK5.drew) BN5.drew
  replace K5 := K5.drew
  obtain ⟨z, hz⟩ : ∃ z, z = w5.drew := ⟨_, rfl⟩
  rw [← hz] at hHeld K5 ⊢
  clear hz BS5 BK5 BN5
  refine lt_read (v := (.agg (yC 16 TS))) 0 (some 21) rfl (by kernel_rfl) (by kernel_rfl) (by kernel_rfl) (by kernel_rfl) (fun _ _ _ h => h) rfl rfl (fun w hSw => ?_) hHeld ?_
  · skip; exact (exec_load_b w 43 (.tmp 11) rfl sb rfl hSw.1.1 Try.underlying43 rfl (by rw [yC_size]; exact tagInfo))
  try simp only [Act.put, List.setIfInBounds_toArray, List.set_cons_zero, List.set_cons_succ]
  refine lt_read (v := (.agg (yC 32 k))) 1 (some 22) rfl (by kernel_rfl) (by kernel_rfl) (by kernel_rfl) (by kernel_rfl) (fun _ _ _ h => h) rfl rfl (fun w hSw => ?_) hHeld ?_
  · skip; exact (exec_load_b w 23 (.tmp 4) rfl kb rfl hSw.1.2 Try.underlying23 rfl (by rw [yC_size]; exact keyInfo))
  try simp only [Act.put, List.setIfInBounds_toArray, List.set_cons_zero, List.set_cons_succ]
  refine lt_read (v := (.agg (yC 12 nn))) 2 (some 23) rfl (by kernel_rfl) (by kernel_rfl) (by kernel_rfl) (by kernel_rfl) (fun _ _ _ h => h) rfl rfl (fun w hSw => ?_) hHeld ?_
  · skip; exact (exec_load_b w 25 (.tmp 5) rfl nb rfl hSw.2 Try.underlying25 rfl (by rw [yC_size]; exact nonInfo))
  try simp only [Act.put, List.setIfInBounds_toArray, List.set_cons_zero, List.set_cons_succ]
  refine lt_val (v := ?_) 3 (some 24) rfl (by kernel_rfl) (by kernel_rfl) (by kernel_rfl) (fun _ _ _ h => h) rfl rfl (fun w => ?_) ?_
  rotate_left
  · (go_simp; try with_reducible rfl)
  try simp only [Act.put, List.setIfInBounds_toArray, List.set_cons_zero, List.set_cons_succ]
  refine lt_val (v := ?_) 4 (some 25) rfl (by kernel_rfl) (by kernel_rfl) (by kernel_rfl) (fun _ _ _ h => h) rfl rfl (fun w => ?_) ?_
  rotate_left
  · (go_simp; try with_reducible rfl)
  try simp only [Act.put, List.setIfInBounds_toArray, List.set_cons_zero, List.set_cons_succ]
  refine lt_one 5 rfl (by kernel_rfl) rfl (fun K hK => ?_)
  go_simp
  refine (HTO'.out z (HS1.out.2.kept K5) (HS1.out.1.kept K5)).mono ?_
  rintro e w6 ⟨rfl, k6⟩
  go_wp2_with fail
  refine hK.out _ _ (fun _ h => ⟨⟨h.1.1.chg k6 (by simp), h.1.2.chg k6 (by simp)⟩, h.2.chg k6 (by simp)⟩) ?_
  clear hK K
  try simp only [Act.put, List.setIfInBounds_toArray, List.set_cons_zero, List.set_cons_succ]
  refine lt_val (v := ?_) 6 (some 27) rfl (by kernel_rfl) (by kernel_rfl) (by kernel_rfl) (fun _ _ _ h => h) rfl rfl (fun w => ?_) ?_
  rotate_left
  · (go_simp; try with_reducible rfl)
  try simp only [Act.put, List.setIfInBounds_toArray, List.set_cons_zero, List.set_cons_succ]
  refine lt_done (by kernel_rfl) ?_ _
  rw [← HTG.out]
  have K6 : Chg w w6 [] := K5.trans1 k6
  have BK6 := hHeld.1.2.chg k6 (by simp)
  have BN6 := hHeld.2.chg k6 (by simp)
  clear hHeld K5 k6 HTG HTO' HSP'
  cases b
  · go_wp2_with fail
    go_ret2
    exact Or.inr ⟨rfl, rfl, K6⟩
  · go_wp2_with (first
      | (with_reducible refine load_b (BN6.chg k7 (by simp)) 25 (.tmp 5) Try.underlying25 ?_ ?_ ?_ ?_ ?_ ?_
         · rfl
         · rfl
         · rfl
         · rfl
         · (rw [yC_size]; exact nonInfo))
      | (with_reducible refine load_b (BK6.chg k7 (by simp)) 23 (.tmp 4) Try.underlying23 ?_ ?_ ?_ ?_ ?_ ?_
         · rfl
         · rfl
         · rfl
         · rfl
         · (rw [yC_size]; exact keyInfo))
      | (refine make_w rfl (.tmp 29) (.tmp 29) rfl N rfl rfl HM.out ?_; intro g7 w7 hg7 BG7 k7))
    refine (HBG.out w7).mono ?_
    rintro e w8 ⟨rfl, k8⟩
    have K8 : Chg w w8 [] := (K6.trans1 k7).trans1 k8
    have HG : Hid (w.heap.size ≤ g7) := by have := K6.size; show w.heap.size ≤ g7; omega
    have BG8 := BG7.chg k8 (by simp)
    clear K6 k7 k8 BK6 BN6 BG7 hg7
    go_wp2_with fail
    refine (mask_s g7 0 N N 5 (.slice (some ⟨g, o, none⟩) N c) N f (fun _ => 0) S HVS.out w8 BG8 (HS1.out.1.kept K8) (HS1.out.1.new [g7] (by have := HG.out; simpa using this)) (by omega) (by omega) (by have := HM.out; omega) (some ⟨g7, 0, none⟩) (fun _ => rfl)).mono ?_
    rw [HKS.out, lay_all]
    rintro e w9 ⟨rfl, B9, k9⟩
    have K9 : Chg w w9 [] := K8.new k9 HG.out
    go_wp2_with fail
    go_ret2
    exact Or.inl ⟨rfl, g7, rfl, HG.out, B9, K9⟩
end Go.Proofs.Ytnopkojpgemldaa
