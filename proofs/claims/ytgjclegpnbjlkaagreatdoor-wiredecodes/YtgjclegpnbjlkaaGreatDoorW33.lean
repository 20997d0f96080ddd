import Derived.Test.YtgjclegpnbjlkaaGreatDoorMwD
import Derived.Test.YtgjclegpnbjlkaaGreatDoorSeL
set_option linter.all false
namespace Go.Proofs.YtgjclegpnbjlkaaGreatDoor
set_option maxHeartbeats 8000000
set_option maxRecDepth 100000
open Go.RowKit
section
variable {P : Program} {ops : Array Oper} {Q : Exit → Act → World → Prop} {md : Region.Mode} {S : World → Prop} {B : Nat → Bool}
theorem lt_br {oi oj : Oper} {fuel : Nat} {listed : Array Bool} {a : Act} {w : World} (i j : Nat) (hi : ops[i]? = some oi) (hj : ops[j]? = some oj) (hr : Region.ready md ops listed = [i, j]) (hwi : Region.wanted oi (yielded ops a.tmps) = true) (hwj : Region.wanted oj (yielded ops a.tmps) = true)
   (h1 : ∀ K' : Act → World → Prop, Shut (∀ a w', (B i = false → S w → S w') → wpAnyL P md ops Q S B fuel (listed.setIfInBounds i true) a w' → K' a w') → Oper.wp P oi a w K' Q)
   (h2 : ∀ K' : Act → World → Prop, Shut (∀ a w', (B j = false → S w → S w') → wpAnyL P md ops Q S B fuel (listed.setIfInBounds j true) a w' → K' a w') → Oper.wp P oj a w K' Q) : wpAnyL P md ops Q S B (fuel + 1) listed a w := by
 refine ⟨fun h0 => absurd (hr ▸ h0) (by simp), fun x hx => ?_⟩
 rw [hr] at hx
 have hx' : x = i ∨ x = j := by simpa using hx
 rcases hx' with rfl | rfl
 · refine wpOp_step hi (fun K' hK => ?_)
   rw [if_pos hwi]
   exact h1 K' (fun a w' q1 q2 => hK a w' ⟨q1, q2⟩)
 · refine wpOp_step hj (fun K' hK => ?_)
   rw [if_pos hwj]
   exact h2 K' (fun a w' q1 q2 => hK a w' ⟨q1, q2⟩)
end
theorem elInfo : (Tryz.prog.info? 25).map (·.size) = some 32 := by kernel_rfl
theorem cmInfoV : (Tryz.prog.info? 27).map (·.size) = some 65 := by kernel_rfl
theorem cm_one (d : Int) (h b : Nat → Nat) : (cmC d h b).all (·.oneCell') = true := by
 unfold cmC
 apply all_oneCell_toArray
 intro v hv
 simp only [List.mem_cons, List.mem_append] at hv
 have hy : ∀ f (v : Value), v ∈ yL 32 f → v.oneCell' = true := fun f v hv => by
   unfold yL at hv
   simp only [List.mem_map] at hv
   obtain ⟨_, _, rfl⟩ := hv
   rfl
 rcases hv with rfl | hv | hv
 · rfl
 · exact hy _ _ hv
 · exact hy _ _ hv
theorem builtCm (d : Int) (h b : Nat → Nat) : Tryz.prog.built 27 [(0, .int .i64 d), (1, .agg (yC 32 h)), (2, .agg (yC 32 b))] = some (cmC d h b) := by kernel_rfl
theorem exec_buildV {P : Program} {o : Oper} {a : Act} (w : World) (t : TypeId) (parts : Array (Nat × Operand)) (ho : o.op = .build t parts) (cells : Array Value) (hb : P.built t (parts.map fun (i, x) => (i, a.eval x)).toList = some cells) :
   (execOp a.eval o).run P w = .ok (.value (.agg cells)) w := by
 have hr := run_build (P := P) w t (parts.map fun (i, x) => (i, a.eval x)) cells hb
 unfold execOp
 simp only [ho, Sem.run_bind, hr, Sem.run_pure, Result.andThen_ok]
theorem exec_build3 {P : Program} {o : Oper} {a : Act} (w : World) (t : TypeId) (i1 i2 i3 : Nat) (x1 x2 x3 : Operand) (ho : o.op = .build t #[(i1, x1), (i2, x2), (i3, x3)]) (v1 v2 v3 : Value) (h1 : a.eval x1 = v1) (h2 : a.eval x2 = v2) (h3 : a.eval x3 = v3) (cells : Array Value) (hb : P.built t [(i1, v1), (i2, v2), (i3, v3)] = some cells) :
   (execOp a.eval o).run P w = .ok (.value (.agg cells)) w := by
 subst h1 h2 h3
 exact exec_buildV w t _ ho cells (by simpa using hb)
theorem pair_ok (r n c g o a x : Nat) (F : Nat → Nat) (b : Int) (s s' : ByteArray) (hx : F a = x) (hk : a + 65 ≤ n) (h0 : 0 < x) (hn : n < c) (hn2 : c ≤ 9223372036854775807) (w : World) (h : Rd w r (.slice (some ⟨g, o, none⟩) n c) (a : Int) s b) (hB : Bs w g o n F) (hgr : ¬ g = r) :
   Calls Tryz.prog 101 #[.pointer (some ⟨r, 0, none⟩), .string s'] w fun e w' => e = .returned (.agg (cmC (x : Int) (fun j => F (a + 1 + j)) (fun j => F (a + 33 + j)))) ∧ Rd w' r (.slice (some ⟨g, o, none⟩) n c) ((a + 65 : Nat) : Int) s' (a : Int) ∧ Chg w w' [r] := by
 have HB : Hid (Bs w g o n F) := hB
 have HG : Hid (¬ g = r) := hgr
 have HR : Hid (Rd w r (.slice (some ⟨g, o, none⟩) n c) (a : Int) s b) := h
 have HL : Hid (r < w.heap.size) := Blk.lt h
 have HGP : Hid (∀ p, w.heap.size ≤ p → ¬ g = p) := fun p hp e => by have := hB.lt; omega
 have HN : Hid (∀ w', Rd w' r (.slice (some ⟨g, o, none⟩) n c) (a : Int) s' (a : Int) → Bs w' g o n F → Calls Tryz.prog 91 #[.pointer (some ⟨r, 0, none⟩), .int .i64 1] w' fun e w'' => e = .returned (.int .u32 (x : Int)) ∧ Rd w'' r (.slice (some ⟨g, o, none⟩) n c) ((a + 1 : Nat) : Int) s' (a : Int) ∧ Chg w' w'' [r]) :=
   fun w' h1 h2 => (number_ok r n c g o a 1 F _ s' (by omega) (by omega) (by omega) (by omega) hn2 w' h1 h2 hgr).mono fun e w'' ⟨h3, h4, h5⟩ => ⟨by rw [h3, show nm F a 1 = x from by simp [nm, hx]], h4, h5⟩
 have HT1 : Hid (∀ w', Rd w' r (.slice (some ⟨g, o, none⟩) n c) ((a + 1 : Nat) : Int) s' (a : Int) → Calls Tryz.prog 90 #[.pointer (some ⟨r, 0, none⟩), .int .i64 32] w' fun e w'' => e = .returned (.slice (some ⟨g, o + (a + 1), none⟩) 32 (c - (a + 1))) ∧ Rd w'' r (.slice (some ⟨g, o, none⟩) n c) ((a + 33 : Nat) : Int) s' (a : Int) ∧ Chg w' w'' [r]) :=
   fun w' h1 => take_ok r n c g o (a + 1) 32 _ s' (by omega) (by omega) (by omega) hn2 w' h1
 have HT33 : Hid (∀ w', Rd w' r (.slice (some ⟨g, o, none⟩) n c) ((a + 33 : Nat) : Int) s' (a : Int) → Calls Tryz.prog 90 #[.pointer (some ⟨r, 0, none⟩), .int .i64 32] w' fun e w'' => e = .returned (.slice (some ⟨g, o + (a + 33), none⟩) 32 (c - (a + 33))) ∧ Rd w'' r (.slice (some ⟨g, o, none⟩) n c) ((a + 65 : Nat) : Int) s' (a : Int) ∧ Chg w' w'' [r]) :=
   fun w' h1 => take_ok r n c g o (a + 33) 32 _ s' (by omega) (by omega) (by omega) hn2 w' h1
 have hx256 : x < 256 := by rw [← hx]; exact hB.bd a (by omega)
 have ex : IntKind.i64.wrap (x : Int) = (x : Int) := by rw [IntKind.wrap_i64]; omega
 have HA : Hid (a + 65 ≤ n ∧ n < c ∧ c ≤ 9223372036854775807) := ⟨by omega, hn, hn2⟩
 have e0 : ¬ (x : Int) = 0 := by omega
 clear hn hn2 h hB hgr hx hx256 hk h0
 go_enter Tryz.func101, Tryz.ntmps101
 go_wp2_with (with_reducible refine alloc_w rfl 27 rfl (.agg (cmC 0 zN zN)) zeroCm (cmC 0 zN zN) rfl ?_; intro ab w1 hab BR k1)
 have HAB : Hid (r < ab ∧ w.heap.size ≤ ab) := ⟨by have := HL.out; omega, hab⟩
 refine (begin_s r _ _ b s s' w1 (HR.out.chg k1 (by simp))).mono ?_
 rintro e w2 ⟨rfl, R, k2⟩
 have C := (k1.wide (l := [r])).trans1 k2
 replace BR := BR.chg k2 (by have := HAB.out; simp; omega)
 clear k1 k2 hab
 go_wp2_with fail
 refine (HN.out w2 R (HB.out.chg C (by simp; exact HG.out))).mono ?_
 clear R
 rintro e w3 ⟨rfl, R, k3⟩
 replace C := C.trans1 k3
 replace BR := BR.chg k3 (by have := HAB.out; simp; omega)
 clear k3
 go_wp2_with fail
 refine lt_begin (fun w' => Bs w' g o n F) (fun i => i == 11) (by kernel_rfl) ?_
 replace C := C.drew
 replace BR := BR.drew
 replace R : Rd w3.drew r (.slice (some ⟨g, o, none⟩) n c) ((a + 1 : Nat) : Int) s' (a : Int) := Blk.drew R
 have hHeld : Bs w3.drew g o n F := HB.out.chg C (by simp; exact HG.out)
 obtain ⟨z, hz⟩ : ∃ z, z = w3.drew := ⟨_, rfl⟩
 rw [← hz] at hHeld C BR R ⊢
 clear hz
 refine lv (.int .i64 (x : Int)) 0 (some 13) rfl (fun w => ?_) ?_; (· (go_simp; try with_reducible rfl)); try simp only [Act.put, sA]
 refine lv ?_ 1 (some 14) rfl (fun w => ?_) ?_; rotate_left; (· (go_simp; try with_reducible rfl)); try simp only [Act.put, sA]
 refine lv ?_ 5 (some 18) rfl (fun w => ?_) ?_; rotate_left; (· (go_simp; try with_reducible rfl)); try simp only [Act.put, sA]
 refine lt_br 2 10 rfl rfl (by kernel_rfl) rfl rfl (fun K hK => ?_) (fun K hK => ?_)
 · go_simp
   refine (HT1.out _ R).mono ?_
   clear R
   rintro e w' ⟨rfl, R, k⟩
   go_wp2_with fail
   refine hK.out _ _ (fun _ h => h.chg k (by simp; exact HG.out)) ?_
   replace hHeld := hHeld.chg k (by simp; exact HG.out)
   replace C := C.trans1 k
   replace BR := BR.chg k (by have := HAB.out; simp; omega)
   clear k
   clear hK K
   try simp only [Act.put, sA]
   refine lv (.pointer (some ⟨g, o + (a + 1), none⟩)) 3 (some 16) rfl (fun w => ?_) ?_
   · have hat : ∀ W, (Instr.arrayAt 25 (.slice (some ⟨g, o + (a + 1), none⟩) 32 (c - (a + 1)))).run Tryz.prog W = .ok (.pointer (some ⟨g, o + (a + 1), none⟩)) W := fun W => run_arrayAt (w := W) 25 _ 32 _ 32 (c - (a + 1)) Tryz.underlying25 (by omega)
     (go_simp; try with_reducible rfl)
   try simp only [Act.put, sA]
   refine lr (.agg (yC 32 (fun j => F (a + 1 + j)))) 4 (some 17) rfl (fun w hSw => ?_) hHeld ?_
   · exact (exec_load_m w 25 (.tmp 16) rfl g (o + (a + 1)) rfl (yL 32 (fun j => F (a + 1 + j))) _ (hSw.sub (a + 1) 32 (by have := HA.out; omega)).rg Tryz.underlying25 rfl (by rw [yL_len]; exact elInfo))
   try simp only [Act.put, sA]
   refine lt_br 6 10 rfl rfl (by kernel_rfl) rfl rfl (fun K hK => ?_) (fun K hK => ?_)
   · go_simp
     refine (HT33.out _ R).mono ?_
     clear R
     rintro e w' ⟨rfl, R, k⟩
     go_wp2_with fail
     refine hK.out _ _ (fun _ h => h.chg k (by simp; exact HG.out)) ?_
     replace hHeld := hHeld.chg k (by simp; exact HG.out)
     replace C := C.trans1 k
     replace BR := BR.chg k (by have := HAB.out; simp; omega)
     clear k
     clear hK K
     try simp only [Act.put, sA]
     refine lv (.pointer (some ⟨g, o + (a + 33), none⟩)) 7 (some 20) rfl (fun w => ?_) ?_
     · have hat : ∀ W, (Instr.arrayAt 25 (.slice (some ⟨g, o + (a + 33), none⟩) 32 (c - (a + 33)))).run Tryz.prog W = .ok (.pointer (some ⟨g, o + (a + 33), none⟩)) W := fun W => run_arrayAt (w := W) 25 _ 32 _ 32 (c - (a + 33)) Tryz.underlying25 (by omega)
       (go_simp; try with_reducible rfl)
     try simp only [Act.put, sA]
     refine lr (.agg (yC 32 (fun j => F (a + 33 + j)))) 8 (some 21) rfl (fun w hSw => ?_) hHeld ?_
     · exact (exec_load_m w 25 (.tmp 20) rfl g (o + (a + 33)) rfl (yL 32 (fun j => F (a + 33 + j))) _ (hSw.sub (a + 33) 32 (by have := HA.out; omega)).rg Tryz.underlying25 rfl (by rw [yL_len]; exact elInfo))
     try simp only [Act.put, sA]
     refine lv (.agg (cmC (x : Int) (fun j => F (a + 1 + j)) (fun j => F (a + 33 + j)))) 9 (some 22) rfl (fun w => ?_) ?_
     · exact exec_build3 w 27 0 1 2 (.tmp 13) (.tmp 17) (.tmp 21) rfl _ _ _ rfl rfl rfl _ (builtCm _ _ _)
     try simp only [Act.put, sA]
     refine lt_one 10 rfl (by kernel_rfl) rfl (fun K hK => ?_)
     refine wp_alloc_w 27 rfl (.agg (cmC 0 zN zN)) zeroCm (cmC 0 zN zN) rfl ?_
     intro pb w' hpb BP k
     have HPB : Hid (r < pb ∧ ab < pb ∧ w.heap.size ≤ pb) := by have := Blk.lt R; have := BR.lt; have := C.size; exact ⟨by omega, by omega, by omega⟩
     refine hK.out _ _ (fun _ h => h.chg k (by simp)) ?_
     replace hHeld := hHeld.chg k (by simp)
     replace C := C.trans1 k.wide
     replace R := R.chg k (by simp)
     replace BR := BR.chg k (by simp)
     clear k hpb
     clear hK K
     try simp only [Act.put, sA]
     refine lt_one 11 rfl (by kernel_rfl) rfl (fun K hK => ?_)
     refine wp_store_w BP 27 _ _ (cmC (x : Int) (fun j => F (a + 1 + j)) (fun j => F (a + 33 + j))) rfl rfl rfl (by rw [cmC_size]; exact cmInfoV) (by rw [cmC_size, cmC_size]) (cm_one _ _ _) ?_
     clear BP
     intro w' BP k
     refine hK.out _ _ (fun _ h => h.chg k (by have := HPB.out; have := hHeld.lt; simp; exact fun e => HGP.out pb HPB.out.2.2 e)) ?_
     replace R := R.chg k (by have := HPB.out; simp; omega)
     replace BR := BR.chg k (by have := HPB.out; simp; omega)
     replace C := C.trans k (fun i hi => by simp at hi; subst hi; exact Or.inr HPB.out.2.2)
     clear k hHeld
     clear hK K
     try simp only [Act.put, sA]
     refine lt_done (by kernel_rfl) ?_ _
     go_wp2_with (first
       | (refine wpList_load_row rfl 27 _ rfl pb rfl 27 _ (0, 0) _ BP Tryz.underlying27 rfl (by rw [cmC_size]; exact cmInfoV) ?_)
       | (refine store_w BR rfl 27 _ _ (cmC (x : Int) (fun j => F (a + 1 + j)) (fun j => F (a + 33 + j))) rfl rfl rfl (by rw [cmC_size]; exact cmInfoV) (by rw [cmC_size, cmC_size]) (cm_one _ _ _) ?_; intro w9 BR9 k9))
     exact bodyPost_ret (results_cell_row Tryz.results101 _ _ ab 27 (cmC (x : Int) (fun j => F (a + 1 + j)) (fun j => F (a + 33 + j))) (0, 0) _ rfl BR9 Tryz.underlying27 rfl (by rw [cmC_size]; exact cmInfoV)) rfl ⟨rfl, R.chg k9 (by have := HAB.out; simp; omega), C.trans k9 (fun i hi => by simp at hi; subst hi; exact Or.inr HAB.out.2)⟩
   · refine wp_alloc_w 27 rfl (.agg (cmC 0 zN zN)) zeroCm (cmC 0 zN zN) rfl ?_
     intro pb w' hpb BP k
     have HPB : Hid (r < pb ∧ ab < pb ∧ w.heap.size ≤ pb) := by have := Blk.lt R; have := BR.lt; have := C.size; exact ⟨by omega, by omega, by omega⟩
     refine hK.out _ _ (fun _ h => h.chg k (by simp)) ?_
     replace hHeld := hHeld.chg k (by simp)
     replace C := C.trans1 k.wide
     replace R := R.chg k (by simp)
     replace BR := BR.chg k (by simp)
     clear k hpb
     clear hK K
     try simp only [Act.put, sA]
     refine lt_one 6 rfl (by kernel_rfl) rfl (fun K hK => ?_)
     go_simp
     refine (HT33.out _ R).mono ?_
     clear R
     rintro e w' ⟨rfl, R, k⟩
     go_wp2_with fail
     refine hK.out _ _ (fun _ h => h.chg k (by simp; exact HG.out)) ?_
     replace hHeld := hHeld.chg k (by simp; exact HG.out)
     replace C := C.trans1 k
     replace BP := BP.chg k (by have := HPB.out; simp; omega)
     replace BR := BR.chg k (by have := HAB.out; simp; omega)
     clear k
     clear hK K
     try simp only [Act.put, sA]
     refine lv (.pointer (some ⟨g, o + (a + 33), none⟩)) 7 (some 20) rfl (fun w => ?_) ?_
     · have hat : ∀ W, (Instr.arrayAt 25 (.slice (some ⟨g, o + (a + 33), none⟩) 32 (c - (a + 33)))).run Tryz.prog W = .ok (.pointer (some ⟨g, o + (a + 33), none⟩)) W := fun W => run_arrayAt (w := W) 25 _ 32 _ 32 (c - (a + 33)) Tryz.underlying25 (by omega)
       (go_simp; try with_reducible rfl)
     try simp only [Act.put, sA]
     refine lr (.agg (yC 32 (fun j => F (a + 33 + j)))) 8 (some 21) rfl (fun w hSw => ?_) hHeld ?_
     · exact (exec_load_m w 25 (.tmp 20) rfl g (o + (a + 33)) rfl (yL 32 (fun j => F (a + 33 + j))) _ (hSw.sub (a + 33) 32 (by have := HA.out; omega)).rg Tryz.underlying25 rfl (by rw [yL_len]; exact elInfo))
     try simp only [Act.put, sA]
     refine lv (.agg (cmC (x : Int) (fun j => F (a + 1 + j)) (fun j => F (a + 33 + j)))) 9 (some 22) rfl (fun w => ?_) ?_
     · exact exec_build3 w 27 0 1 2 (.tmp 13) (.tmp 17) (.tmp 21) rfl _ _ _ rfl rfl rfl _ (builtCm _ _ _)
     try simp only [Act.put, sA]
     refine lt_one 11 rfl (by kernel_rfl) rfl (fun K hK => ?_)
     refine wp_store_w BP 27 _ _ (cmC (x : Int) (fun j => F (a + 1 + j)) (fun j => F (a + 33 + j))) rfl rfl rfl (by rw [cmC_size]; exact cmInfoV) (by rw [cmC_size, cmC_size]) (cm_one _ _ _) ?_
     clear BP
     intro w' BP k
     refine hK.out _ _ (fun _ h => h.chg k (by have := HPB.out; have := hHeld.lt; simp; exact fun e => HGP.out pb HPB.out.2.2 e)) ?_
     replace R := R.chg k (by have := HPB.out; simp; omega)
     replace BR := BR.chg k (by have := HPB.out; simp; omega)
     replace C := C.trans k (fun i hi => by simp at hi; subst hi; exact Or.inr HPB.out.2.2)
     clear k hHeld
     clear hK K
     try simp only [Act.put, sA]
     refine lt_done (by kernel_rfl) ?_ _
     go_wp2_with (first
       | (refine wpList_load_row rfl 27 _ rfl pb rfl 27 _ (0, 0) _ BP Tryz.underlying27 rfl (by rw [cmC_size]; exact cmInfoV) ?_)
       | (refine store_w BR rfl 27 _ _ (cmC (x : Int) (fun j => F (a + 1 + j)) (fun j => F (a + 33 + j))) rfl rfl rfl (by rw [cmC_size]; exact cmInfoV) (by rw [cmC_size, cmC_size]) (cm_one _ _ _) ?_; intro w9 BR9 k9))
     exact bodyPost_ret (results_cell_row Tryz.results101 _ _ ab 27 (cmC (x : Int) (fun j => F (a + 1 + j)) (fun j => F (a + 33 + j))) (0, 0) _ rfl BR9 Tryz.underlying27 rfl (by rw [cmC_size]; exact cmInfoV)) rfl ⟨rfl, R.chg k9 (by have := HAB.out; simp; omega), C.trans k9 (fun i hi => by simp at hi; subst hi; exact Or.inr HAB.out.2)⟩
 · refine wp_alloc_w 27 rfl (.agg (cmC 0 zN zN)) zeroCm (cmC 0 zN zN) rfl ?_
   intro pb w' hpb BP k
   have HPB : Hid (r < pb ∧ ab < pb ∧ w.heap.size ≤ pb) := by have := Blk.lt R; have := BR.lt; have := C.size; exact ⟨by omega, by omega, by omega⟩
   refine hK.out _ _ (fun _ h => h.chg k (by simp)) ?_
   replace hHeld := hHeld.chg k (by simp)
   replace C := C.trans1 k.wide
   replace R := R.chg k (by simp)
   replace BR := BR.chg k (by simp)
   clear k hpb
   clear hK K
   try simp only [Act.put, sA]
   refine lt_one 2 rfl (by kernel_rfl) rfl (fun K hK => ?_)
   go_simp
   refine (HT1.out _ R).mono ?_
   clear R
   rintro e w' ⟨rfl, R, k⟩
   go_wp2_with fail
   refine hK.out _ _ (fun _ h => h.chg k (by simp; exact HG.out)) ?_
   replace hHeld := hHeld.chg k (by simp; exact HG.out)
   replace C := C.trans1 k
   replace BP := BP.chg k (by have := HPB.out; simp; omega)
   replace BR := BR.chg k (by have := HAB.out; simp; omega)
   clear k
   clear hK K
   try simp only [Act.put, sA]
   refine lv (.pointer (some ⟨g, o + (a + 1), none⟩)) 3 (some 16) rfl (fun w => ?_) ?_
   · have hat : ∀ W, (Instr.arrayAt 25 (.slice (some ⟨g, o + (a + 1), none⟩) 32 (c - (a + 1)))).run Tryz.prog W = .ok (.pointer (some ⟨g, o + (a + 1), none⟩)) W := fun W => run_arrayAt (w := W) 25 _ 32 _ 32 (c - (a + 1)) Tryz.underlying25 (by omega)
     (go_simp; try with_reducible rfl)
   try simp only [Act.put, sA]
   refine lr (.agg (yC 32 (fun j => F (a + 1 + j)))) 4 (some 17) rfl (fun w hSw => ?_) hHeld ?_
   · exact (exec_load_m w 25 (.tmp 16) rfl g (o + (a + 1)) rfl (yL 32 (fun j => F (a + 1 + j))) _ (hSw.sub (a + 1) 32 (by have := HA.out; omega)).rg Tryz.underlying25 rfl (by rw [yL_len]; exact elInfo))
   try simp only [Act.put, sA]
   refine lt_one 6 rfl (by kernel_rfl) rfl (fun K hK => ?_)
   go_simp
   refine (HT33.out _ R).mono ?_
   clear R
   rintro e w' ⟨rfl, R, k⟩
   go_wp2_with fail
   refine hK.out _ _ (fun _ h => h.chg k (by simp; exact HG.out)) ?_
   replace hHeld := hHeld.chg k (by simp; exact HG.out)
   replace C := C.trans1 k
   replace BP := BP.chg k (by have := HPB.out; simp; omega)
   replace BR := BR.chg k (by have := HAB.out; simp; omega)
   clear k
   clear hK K
   try simp only [Act.put, sA]
   refine lv (.pointer (some ⟨g, o + (a + 33), none⟩)) 7 (some 20) rfl (fun w => ?_) ?_
   · have hat : ∀ W, (Instr.arrayAt 25 (.slice (some ⟨g, o + (a + 33), none⟩) 32 (c - (a + 33)))).run Tryz.prog W = .ok (.pointer (some ⟨g, o + (a + 33), none⟩)) W := fun W => run_arrayAt (w := W) 25 _ 32 _ 32 (c - (a + 33)) Tryz.underlying25 (by omega)
     (go_simp; try with_reducible rfl)
   try simp only [Act.put, sA]
   refine lr (.agg (yC 32 (fun j => F (a + 33 + j)))) 8 (some 21) rfl (fun w hSw => ?_) hHeld ?_
   · exact (exec_load_m w 25 (.tmp 20) rfl g (o + (a + 33)) rfl (yL 32 (fun j => F (a + 33 + j))) _ (hSw.sub (a + 33) 32 (by have := HA.out; omega)).rg Tryz.underlying25 rfl (by rw [yL_len]; exact elInfo))
   try simp only [Act.put, sA]
   refine lv (.agg (cmC (x : Int) (fun j => F (a + 1 + j)) (fun j => F (a + 33 + j)))) 9 (some 22) rfl (fun w => ?_) ?_
   · exact exec_build3 w 27 0 1 2 (.tmp 13) (.tmp 17) (.tmp 21) rfl _ _ _ rfl rfl rfl _ (builtCm _ _ _)
   try simp only [Act.put, sA]
   refine lt_one 11 rfl (by kernel_rfl) rfl (fun K hK => ?_)
   refine wp_store_w BP 27 _ _ (cmC (x : Int) (fun j => F (a + 1 + j)) (fun j => F (a + 33 + j))) rfl rfl rfl (by rw [cmC_size]; exact cmInfoV) (by rw [cmC_size, cmC_size]) (cm_one _ _ _) ?_
   clear BP
   intro w' BP k
   refine hK.out _ _ (fun _ h => h.chg k (by have := HPB.out; have := hHeld.lt; simp; exact fun e => HGP.out pb HPB.out.2.2 e)) ?_
   replace R := R.chg k (by have := HPB.out; simp; omega)
   replace BR := BR.chg k (by have := HPB.out; simp; omega)
   replace C := C.trans k (fun i hi => by simp at hi; subst hi; exact Or.inr HPB.out.2.2)
   clear k hHeld
   clear hK K
   try simp only [Act.put, sA]
   refine lt_done (by kernel_rfl) ?_ _
   go_wp2_with (first
     | (refine wpList_load_row rfl 27 _ rfl pb rfl 27 _ (0, 0) _ BP Tryz.underlying27 rfl (by rw [cmC_size]; exact cmInfoV) ?_)
     | (refine store_w BR rfl 27 _ _ (cmC (x : Int) (fun j => F (a + 1 + j)) (fun j => F (a + 33 + j))) rfl rfl rfl (by rw [cmC_size]; exact cmInfoV) (by rw [cmC_size, cmC_size]) (cm_one _ _ _) ?_; intro w9 BR9 k9))
   exact bodyPost_ret (results_cell_row Tryz.results101 _ _ ab 27 (cmC (x : Int) (fun j => F (a + 1 + j)) (fun j => F (a + 33 + j))) (0, 0) _ rfl BR9 Tryz.underlying27 rfl (by rw [cmC_size]; exact cmInfoV)) rfl ⟨rfl, R.chg k9 (by have := HAB.out; simp; omega), C.trans k9 (fun i hi => by simp at hi; subst hi; exact Or.inr HAB.out.2)⟩
theorem pair_zero (r n c g o a x : Nat) (F : Nat → Nat) (b : Int) (s s' : ByteArray) (hx : F a = x) (hk : a + 65 ≤ n) (h0 : x = 0) (hn : n < c) (hn2 : c ≤ 9223372036854775807) (w : World) (h : Rd w r (.slice (some ⟨g, o, none⟩) n c) (a : Int) s b) (hB : Bs w g o n F) (hgr : ¬ g = r) :
   Calls Tryz.prog 101 #[.pointer (some ⟨r, 0, none⟩), .string s'] w fun e w' => Gu w.heap.size s' (a : Int) 4 e w' ∧ Chg w w' [r] := by
 have HB : Hid (Bs w g o n F) := hB
 have HG : Hid (¬ g = r) := hgr
 have HR : Hid (Rd w r (.slice (some ⟨g, o, none⟩) n c) (a : Int) s b) := h
 have HL : Hid (r < w.heap.size) := Blk.lt h
 have HGP : Hid (∀ p, w.heap.size ≤ p → ¬ g = p) := fun p hp e => by have := hB.lt; omega
 have HN : Hid (∀ w', Rd w' r (.slice (some ⟨g, o, none⟩) n c) (a : Int) s' (a : Int) → Bs w' g o n F → Calls Tryz.prog 91 #[.pointer (some ⟨r, 0, none⟩), .int .i64 1] w' fun e w'' => e = .returned (.int .u32 (x : Int)) ∧ Rd w'' r (.slice (some ⟨g, o, none⟩) n c) ((a + 1 : Nat) : Int) s' (a : Int) ∧ Chg w' w'' [r]) :=
   fun w' h1 h2 => (number_ok r n c g o a 1 F _ s' (by omega) (by omega) (by omega) (by omega) hn2 w' h1 h2 hgr).mono fun e w'' ⟨h3, h4, h5⟩ => ⟨by rw [h3, show nm F a 1 = x from by simp [nm, hx]], h4, h5⟩
 have HT1 : Hid (∀ w', Rd w' r (.slice (some ⟨g, o, none⟩) n c) ((a + 1 : Nat) : Int) s' (a : Int) → Calls Tryz.prog 90 #[.pointer (some ⟨r, 0, none⟩), .int .i64 32] w' fun e w'' => e = .returned (.slice (some ⟨g, o + (a + 1), none⟩) 32 (c - (a + 1))) ∧ Rd w'' r (.slice (some ⟨g, o, none⟩) n c) ((a + 33 : Nat) : Int) s' (a : Int) ∧ Chg w' w'' [r]) :=
   fun w' h1 => take_ok r n c g o (a + 1) 32 _ s' (by omega) (by omega) (by omega) hn2 w' h1
 have HT33 : Hid (∀ w', Rd w' r (.slice (some ⟨g, o, none⟩) n c) ((a + 33 : Nat) : Int) s' (a : Int) → Calls Tryz.prog 90 #[.pointer (some ⟨r, 0, none⟩), .int .i64 32] w' fun e w'' => e = .returned (.slice (some ⟨g, o + (a + 33), none⟩) 32 (c - (a + 33))) ∧ Rd w'' r (.slice (some ⟨g, o, none⟩) n c) ((a + 65 : Nat) : Int) s' (a : Int) ∧ Chg w' w'' [r]) :=
   fun w' h1 => take_ok r n c g o (a + 33) 32 _ s' (by omega) (by omega) (by omega) hn2 w' h1
 have hx256 : x < 256 := by rw [← hx]; exact hB.bd a (by omega)
 have ex : IntKind.i64.wrap (x : Int) = (x : Int) := by rw [IntKind.wrap_i64]; omega
 have HA : Hid (a + 65 ≤ n ∧ n < c ∧ c ≤ 9223372036854775807) := ⟨by omega, hn, hn2⟩
 have HE0 : Hid ((x : Int) = 0) := by show (x : Int) = 0; omega
 clear hn hn2 h hB hgr hx hx256 hk h0
 go_enter Tryz.func101, Tryz.ntmps101
 go_wp2_with (with_reducible refine alloc_w rfl 27 rfl (.agg (cmC 0 zN zN)) zeroCm (cmC 0 zN zN) rfl ?_; intro ab w1 hab BR k1)
 have HAB : Hid (r < ab ∧ w.heap.size ≤ ab) := ⟨by have := HL.out; omega, hab⟩
 refine (begin_s r _ _ b s s' w1 (HR.out.chg k1 (by simp))).mono ?_
 rintro e w2 ⟨rfl, R, k2⟩
 have C := (k1.wide (l := [r])).trans1 k2
 replace BR := BR.chg k2 (by have := HAB.out; simp; omega)
 clear k1 k2 hab
 go_wp2_with fail
 refine (HN.out w2 R (HB.out.chg C (by simp; exact HG.out))).mono ?_
 clear R
 rintro e w3 ⟨rfl, R, k3⟩
 replace C := C.trans1 k3
 replace BR := BR.chg k3 (by have := HAB.out; simp; omega)
 clear k3
 go_wp2_with fail
 refine lt_begin (fun w' => Bs w' g o n F) (fun i => i == 11) (by kernel_rfl) ?_
 replace C := C.drew
 replace BR := BR.drew
 replace R : Rd w3.drew r (.slice (some ⟨g, o, none⟩) n c) ((a + 1 : Nat) : Int) s' (a : Int) := Blk.drew R
 have hHeld : Bs w3.drew g o n F := HB.out.chg C (by simp; exact HG.out)
 obtain ⟨z, hz⟩ : ∃ z, z = w3.drew := ⟨_, rfl⟩
 rw [← hz] at hHeld C BR R ⊢
 clear hz
 refine lv (.int .i64 (x : Int)) 0 (some 13) rfl (fun w => ?_) ?_; (· (go_simp; try with_reducible rfl)); try simp only [Act.put, sA]
 refine lv ?_ 1 (some 14) rfl (fun w => ?_) ?_; rotate_left; (· (go_simp; try with_reducible rfl)); try simp only [Act.put, sA]
 refine lv ?_ 5 (some 18) rfl (fun w => ?_) ?_; rotate_left; (· (go_simp; try with_reducible rfl)); try simp only [Act.put, sA]
 refine lt_br 2 10 rfl rfl (by kernel_rfl) rfl rfl (fun K hK => ?_) (fun K hK => ?_)
 · go_simp
   refine (HT1.out _ R).mono ?_
   clear R
   rintro e w' ⟨rfl, R, k⟩
   go_wp2_with fail
   refine hK.out _ _ (fun _ h => h.chg k (by simp; exact HG.out)) ?_
   replace hHeld := hHeld.chg k (by simp; exact HG.out)
   replace C := C.trans1 k
   replace BR := BR.chg k (by have := HAB.out; simp; omega)
   clear k
   clear hK K
   try simp only [Act.put, sA]
   refine lv (.pointer (some ⟨g, o + (a + 1), none⟩)) 3 (some 16) rfl (fun w => ?_) ?_
   · have hat : ∀ W, (Instr.arrayAt 25 (.slice (some ⟨g, o + (a + 1), none⟩) 32 (c - (a + 1)))).run Tryz.prog W = .ok (.pointer (some ⟨g, o + (a + 1), none⟩)) W := fun W => run_arrayAt (w := W) 25 _ 32 _ 32 (c - (a + 1)) Tryz.underlying25 (by omega)
     (go_simp; try with_reducible rfl)
   try simp only [Act.put, sA]
   refine lr (.agg (yC 32 (fun j => F (a + 1 + j)))) 4 (some 17) rfl (fun w hSw => ?_) hHeld ?_
   · exact (exec_load_m w 25 (.tmp 16) rfl g (o + (a + 1)) rfl (yL 32 (fun j => F (a + 1 + j))) _ (hSw.sub (a + 1) 32 (by have := HA.out; omega)).rg Tryz.underlying25 rfl (by rw [yL_len]; exact elInfo))
   try simp only [Act.put, sA]
   refine lt_br 6 10 rfl rfl (by kernel_rfl) rfl rfl (fun K hK => ?_) (fun K hK => ?_)
   · go_simp
     refine (HT33.out _ R).mono ?_
     clear R
     rintro e w' ⟨rfl, R, k⟩
     go_wp2_with fail
     refine hK.out _ _ (fun _ h => h.chg k (by simp; exact HG.out)) ?_
     replace hHeld := hHeld.chg k (by simp; exact HG.out)
     replace C := C.trans1 k
     replace BR := BR.chg k (by have := HAB.out; simp; omega)
     clear k
     clear hK K
     try simp only [Act.put, sA]
     refine lv (.pointer (some ⟨g, o + (a + 33), none⟩)) 7 (some 20) rfl (fun w => ?_) ?_
     · have hat : ∀ W, (Instr.arrayAt 25 (.slice (some ⟨g, o + (a + 33), none⟩) 32 (c - (a + 33)))).run Tryz.prog W = .ok (.pointer (some ⟨g, o + (a + 33), none⟩)) W := fun W => run_arrayAt (w := W) 25 _ 32 _ 32 (c - (a + 33)) Tryz.underlying25 (by omega)
       (go_simp; try with_reducible rfl)
     try simp only [Act.put, sA]
     refine lr (.agg (yC 32 (fun j => F (a + 33 + j)))) 8 (some 21) rfl (fun w hSw => ?_) hHeld ?_
     · exact (exec_load_m w 25 (.tmp 20) rfl g (o + (a + 33)) rfl (yL 32 (fun j => F (a + 33 + j))) _ (hSw.sub (a + 33) 32 (by have := HA.out; omega)).rg Tryz.underlying25 rfl (by rw [yL_len]; exact elInfo))
     try simp only [Act.put, sA]
     refine lv (.agg (cmC (x : Int) (fun j => F (a + 1 + j)) (fun j => F (a + 33 + j)))) 9 (some 22) rfl (fun w => ?_) ?_
     · exact exec_build3 w 27 0 1 2 (.tmp 13) (.tmp 17) (.tmp 21) rfl _ _ _ rfl rfl rfl _ (builtCm _ _ _)
     try simp only [Act.put, sA]
     refine lt_one 10 rfl (by kernel_rfl) rfl (fun K hK => ?_)
     refine wp_alloc_w 27 rfl (.agg (cmC 0 zN zN)) zeroCm (cmC 0 zN zN) rfl ?_
     intro pb w' hpb BP k
     have HPB : Hid (r < pb ∧ ab < pb ∧ w.heap.size ≤ pb) := by have := Blk.lt R; have := BR.lt; have := C.size; exact ⟨by omega, by omega, by omega⟩
     refine hK.out _ _ (fun _ h => h.chg k (by simp)) ?_
     replace hHeld := hHeld.chg k (by simp)
     replace C := C.trans1 k.wide
     replace R := R.chg k (by simp)
     replace BR := BR.chg k (by simp)
     clear k hpb
     clear hK K
     try simp only [Act.put, sA]
     refine lt_one 11 rfl (by kernel_rfl) rfl (fun K hK => ?_)
     refine wp_store_w BP 27 _ _ (cmC (x : Int) (fun j => F (a + 1 + j)) (fun j => F (a + 33 + j))) rfl rfl rfl (by rw [cmC_size]; exact cmInfoV) (by rw [cmC_size, cmC_size]) (cm_one _ _ _) ?_
     clear BP
     intro w' BP k
     refine hK.out _ _ (fun _ h => h.chg k (by have := HPB.out; have := hHeld.lt; simp; exact fun e => HGP.out pb HPB.out.2.2 e)) ?_
     replace R := R.chg k (by have := HPB.out; simp; omega)
     replace BR := BR.chg k (by have := HPB.out; simp; omega)
     replace C := C.trans k (fun i hi => by simp at hi; subst hi; exact Or.inr HPB.out.2.2)
     clear k hHeld
     clear hK K
     try simp only [Act.put, sA]
     refine lt_done (by kernel_rfl) ?_ _
     have e0 := HE0.out
     go_wp2_with fail
     refine (wrong_s r _ _ (a : Int) 4 s' _ R).mono ?_
     rintro e w5 ⟨⟨v5, rfl, hf⟩, k5⟩
     exact ⟨rfl, ⟨v5, rfl, hf.lw C.size⟩, C.trans1 k5.wide⟩
   · refine wp_alloc_w 27 rfl (.agg (cmC 0 zN zN)) zeroCm (cmC 0 zN zN) rfl ?_
     intro pb w' hpb BP k
     have HPB : Hid (r < pb ∧ ab < pb ∧ w.heap.size ≤ pb) := by have := Blk.lt R; have := BR.lt; have := C.size; exact ⟨by omega, by omega, by omega⟩
     refine hK.out _ _ (fun _ h => h.chg k (by simp)) ?_
     replace hHeld := hHeld.chg k (by simp)
     replace C := C.trans1 k.wide
     replace R := R.chg k (by simp)
     replace BR := BR.chg k (by simp)
     clear k hpb
     clear hK K
     try simp only [Act.put, sA]
     refine lt_one 6 rfl (by kernel_rfl) rfl (fun K hK => ?_)
     go_simp
     refine (HT33.out _ R).mono ?_
     clear R
     rintro e w' ⟨rfl, R, k⟩
     go_wp2_with fail
     refine hK.out _ _ (fun _ h => h.chg k (by simp; exact HG.out)) ?_
     replace hHeld := hHeld.chg k (by simp; exact HG.out)
     replace C := C.trans1 k
     replace BP := BP.chg k (by have := HPB.out; simp; omega)
     replace BR := BR.chg k (by have := HAB.out; simp; omega)
     clear k
     clear hK K
     try simp only [Act.put, sA]
     refine lv (.pointer (some ⟨g, o + (a + 33), none⟩)) 7 (some 20) rfl (fun w => ?_) ?_
     · have hat : ∀ W, (Instr.arrayAt 25 (.slice (some ⟨g, o + (a + 33), none⟩) 32 (c - (a + 33)))).run Tryz.prog W = .ok (.pointer (some ⟨g, o + (a + 33), none⟩)) W := fun W => run_arrayAt (w := W) 25 _ 32 _ 32 (c - (a + 33)) Tryz.underlying25 (by omega)
       (go_simp; try with_reducible rfl)
     try simp only [Act.put, sA]
     refine lr (.agg (yC 32 (fun j => F (a + 33 + j)))) 8 (some 21) rfl (fun w hSw => ?_) hHeld ?_
     · exact (exec_load_m w 25 (.tmp 20) rfl g (o + (a + 33)) rfl (yL 32 (fun j => F (a + 33 + j))) _ (hSw.sub (a + 33) 32 (by have := HA.out; omega)).rg Tryz.underlying25 rfl (by rw [yL_len]; exact elInfo))
     try simp only [Act.put, sA]
     refine lv (.agg (cmC (x : Int) (fun j => F (a + 1 + j)) (fun j => F (a + 33 + j)))) 9 (some 22) rfl (fun w => ?_) ?_
     · exact exec_build3 w 27 0 1 2 (.tmp 13) (.tmp 17) (.tmp 21) rfl _ _ _ rfl rfl rfl _ (builtCm _ _ _)
     try simp only [Act.put, sA]
     refine lt_one 11 rfl (by kernel_rfl) rfl (fun K hK => ?_)
     refine wp_store_w BP 27 _ _ (cmC (x : Int) (fun j => F (a + 1 + j)) (fun j => F (a + 33 + j))) rfl rfl rfl (by rw [cmC_size]; exact cmInfoV) (by rw [cmC_size, cmC_size]) (cm_one _ _ _) ?_
     clear BP
     intro w' BP k
     refine hK.out _ _ (fun _ h => h.chg k (by have := HPB.out; have := hHeld.lt; simp; exact fun e => HGP.out pb HPB.out.2.2 e)) ?_
     replace R := R.chg k (by have := HPB.out; simp; omega)
     replace BR := BR.chg k (by have := HPB.out; simp; omega)
     replace C := C.trans k (fun i hi => by simp at hi; subst hi; exact Or.inr HPB.out.2.2)
     clear k hHeld
     clear hK K
     try simp only [Act.put, sA]
     refine lt_done (by kernel_rfl) ?_ _
     have e0 := HE0.out
     go_wp2_with fail
     refine (wrong_s r _ _ (a : Int) 4 s' _ R).mono ?_
     rintro e w5 ⟨⟨v5, rfl, hf⟩, k5⟩
     exact ⟨rfl, ⟨v5, rfl, hf.lw C.size⟩, C.trans1 k5.wide⟩
 · refine wp_alloc_w 27 rfl (.agg (cmC 0 zN zN)) zeroCm (cmC 0 zN zN) rfl ?_
   intro pb w' hpb BP k
   have HPB : Hid (r < pb ∧ ab < pb ∧ w.heap.size ≤ pb) := by have := Blk.lt R; have := BR.lt; have := C.size; exact ⟨by omega, by omega, by omega⟩
   refine hK.out _ _ (fun _ h => h.chg k (by simp)) ?_
   replace hHeld := hHeld.chg k (by simp)
   replace C := C.trans1 k.wide
   replace R := R.chg k (by simp)
   replace BR := BR.chg k (by simp)
   clear k hpb
   clear hK K
   try simp only [Act.put, sA]
   refine lt_one 2 rfl (by kernel_rfl) rfl (fun K hK => ?_)
   go_simp
   refine (HT1.out _ R).mono ?_
   clear R
   rintro e w' ⟨rfl, R, k⟩
   go_wp2_with fail
   refine hK.out _ _ (fun _ h => h.chg k (by simp; exact HG.out)) ?_
   replace hHeld := hHeld.chg k (by simp; exact HG.out)
   replace C := C.trans1 k
   replace BP := BP.chg k (by have := HPB.out; simp; omega)
   replace BR := BR.chg k (by have := HAB.out; simp; omega)
   clear k
   clear hK K
   try simp only [Act.put, sA]
   refine lv (.pointer (some ⟨g, o + (a + 1), none⟩)) 3 (some 16) rfl (fun w => ?_) ?_
   · have hat : ∀ W, (Instr.arrayAt 25 (.slice (some ⟨g, o + (a + 1), none⟩) 32 (c - (a + 1)))).run Tryz.prog W = .ok (.pointer (some ⟨g, o + (a + 1), none⟩)) W := fun W => run_arrayAt (w := W) 25 _ 32 _ 32 (c - (a + 1)) Tryz.underlying25 (by omega)
     (go_simp; try with_reducible rfl)
   try simp only [Act.put, sA]
   refine lr (.agg (yC 32 (fun j => F (a + 1 + j)))) 4 (some 17) rfl (fun w hSw => ?_) hHeld ?_
   · exact (exec_load_m w 25 (.tmp 16) rfl g (o + (a + 1)) rfl (yL 32 (fun j => F (a + 1 + j))) _ (hSw.sub (a + 1) 32 (by have := HA.out; omega)).rg Tryz.underlying25 rfl (by rw [yL_len]; exact elInfo))
   try simp only [Act.put, sA]
   refine lt_one 6 rfl (by kernel_rfl) rfl (fun K hK => ?_)
   go_simp
   refine (HT33.out _ R).mono ?_
   clear R
   rintro e w' ⟨rfl, R, k⟩
   go_wp2_with fail
   refine hK.out _ _ (fun _ h => h.chg k (by simp; exact HG.out)) ?_
   replace hHeld := hHeld.chg k (by simp; exact HG.out)
   replace C := C.trans1 k
   replace BP := BP.chg k (by have := HPB.out; simp; omega)
   replace BR := BR.chg k (by have := HAB.out; simp; omega)
   clear k
   clear hK K
   try simp only [Act.put, sA]
   refine lv (.pointer (some ⟨g, o + (a + 33), none⟩)) 7 (some 20) rfl (fun w => ?_) ?_
   · have hat : ∀ W, (Instr.arrayAt 25 (.slice (some ⟨g, o + (a + 33), none⟩) 32 (c - (a + 33)))).run Tryz.prog W = .ok (.pointer (some ⟨g, o + (a + 33), none⟩)) W := fun W => run_arrayAt (w := W) 25 _ 32 _ 32 (c - (a + 33)) Tryz.underlying25 (by omega)
     (go_simp; try with_reducible rfl)
   try simp only [Act.put, sA]
   refine lr (.agg (yC 32 (fun j => F (a + 33 + j)))) 8 (some 21) rfl (fun w hSw => ?_) hHeld ?_
   · exact (exec_load_m w 25 (.tmp 20) rfl g (o + (a + 33)) rfl (yL 32 (fun j => F (a + 33 + j))) _ (hSw.sub (a + 33) 32 (by have := HA.out; omega)).rg Tryz.underlying25 rfl (by rw [yL_len]; exact elInfo))
   try simp only [Act.put, sA]
   refine lv (.agg (cmC (x : Int) (fun j => F (a + 1 + j)) (fun j => F (a + 33 + j)))) 9 (some 22) rfl (fun w => ?_) ?_
   · exact exec_build3 w 27 0 1 2 (.tmp 13) (.tmp 17) (.tmp 21) rfl _ _ _ rfl rfl rfl _ (builtCm _ _ _)
   try simp only [Act.put, sA]
   refine lt_one 11 rfl (by kernel_rfl) rfl (fun K hK => ?_)
   refine wp_store_w BP 27 _ _ (cmC (x : Int) (fun j => F (a + 1 + j)) (fun j => F (a + 33 + j))) rfl rfl rfl (by rw [cmC_size]; exact cmInfoV) (by rw [cmC_size, cmC_size]) (cm_one _ _ _) ?_
   clear BP
   intro w' BP k
   refine hK.out _ _ (fun _ h => h.chg k (by have := HPB.out; have := hHeld.lt; simp; exact fun e => HGP.out pb HPB.out.2.2 e)) ?_
   replace R := R.chg k (by have := HPB.out; simp; omega)
   replace BR := BR.chg k (by have := HPB.out; simp; omega)
   replace C := C.trans k (fun i hi => by simp at hi; subst hi; exact Or.inr HPB.out.2.2)
   clear k hHeld
   clear hK K
   try simp only [Act.put, sA]
   refine lt_done (by kernel_rfl) ?_ _
   have e0 := HE0.out
   go_wp2_with fail
   refine (wrong_s r _ _ (a : Int) 4 s' _ R).mono ?_
   rintro e w5 ⟨⟨v5, rfl, hf⟩, k5⟩
   exact ⟨rfl, ⟨v5, rfl, hf.lw C.size⟩, C.trans1 k5.wide⟩
theorem pair_gu33 (r n c g o a x : Nat) (F : Nat → Nat) (b : Int) (s s' : ByteArray) (hx : F a = x) (hk : a + 1 ≤ n) (hk2 : n < a + 33) (hn : n < c) (hn2 : c ≤ 9223372036854775807) (w : World) (h : Rd w r (.slice (some ⟨g, o, none⟩) n c) (a : Int) s b) (hB : Bs w g o n F) (hgr : ¬ g = r) :
   Calls Tryz.prog 101 #[.pointer (some ⟨r, 0, none⟩), .string s'] w fun e w' => Gu w.heap.size s' (a : Int) 3 e w' ∧ Chg w w' [r] := by
 have HB : Hid (Bs w g o n F) := hB
 have HG : Hid (¬ g = r) := hgr
 have HR : Hid (Rd w r (.slice (some ⟨g, o, none⟩) n c) (a : Int) s b) := h
 have HL : Hid (r < w.heap.size) := Blk.lt h
 have HGP : Hid (∀ p, w.heap.size ≤ p → ¬ g = p) := fun p hp e => by have := hB.lt; omega
 have HN : Hid (∀ w', Rd w' r (.slice (some ⟨g, o, none⟩) n c) (a : Int) s' (a : Int) → Bs w' g o n F → Calls Tryz.prog 91 #[.pointer (some ⟨r, 0, none⟩), .int .i64 1] w' fun e w'' => e = .returned (.int .u32 (x : Int)) ∧ Rd w'' r (.slice (some ⟨g, o, none⟩) n c) ((a + 1 : Nat) : Int) s' (a : Int) ∧ Chg w' w'' [r]) :=
   fun w' h1 h2 => (number_ok r n c g o a 1 F _ s' (by omega) (by omega) (by omega) (by omega) hn2 w' h1 h2 hgr).mono fun e w'' ⟨h3, h4, h5⟩ => ⟨by rw [h3, show nm F a 1 = x from by simp [nm, hx]], h4, h5⟩
 have HTG : Hid (∀ w', Rd w' r (.slice (some ⟨g, o, none⟩) n c) ((a + 1 : Nat) : Int) s' (a : Int) → Calls Tryz.prog 90 #[.pointer (some ⟨r, 0, none⟩), .int .i64 32] w' fun e w'' => Gu w'.heap.size s' (a : Int) 3 e w'' ∧ Chg w' w'' []) :=
   fun w' h1 => take_gu r n c 32 _ (a + 1) _ s' (by omega) (by omega) (by omega) (by omega) w' h1
 have hx256 : x < 256 := by rw [← hx]; exact hB.bd a (by omega)
 have ex : IntKind.i64.wrap (x : Int) = (x : Int) := by rw [IntKind.wrap_i64]; omega
 have HA : Hid (a + 1 ≤ n ∧ n < c ∧ c ≤ 9223372036854775807) := ⟨by omega, hn, hn2⟩
 clear hn hn2 h hB hgr hx hx256 hk hk2
 go_enter Tryz.func101, Tryz.ntmps101
 go_wp2_with (with_reducible refine alloc_w rfl 27 rfl (.agg (cmC 0 zN zN)) zeroCm (cmC 0 zN zN) rfl ?_; intro ab w1 hab BR k1)
 have HAB : Hid (r < ab ∧ w.heap.size ≤ ab) := ⟨by have := HL.out; omega, hab⟩
 refine (begin_s r _ _ b s s' w1 (HR.out.chg k1 (by simp))).mono ?_
 rintro e w2 ⟨rfl, R, k2⟩
 have C := (k1.wide (l := [r])).trans1 k2
 replace BR := BR.chg k2 (by have := HAB.out; simp; omega)
 clear k1 k2 hab
 go_wp2_with fail
 refine (HN.out w2 R (HB.out.chg C (by simp; exact HG.out))).mono ?_
 clear R
 rintro e w3 ⟨rfl, R, k3⟩
 replace C := C.trans1 k3
 replace BR := BR.chg k3 (by have := HAB.out; simp; omega)
 clear k3
 go_wp2_with fail
 refine lt_begin (fun w' => Bs w' g o n F) (fun i => i == 11) (by kernel_rfl) ?_
 replace C := C.drew
 replace BR := BR.drew
 replace R : Rd w3.drew r (.slice (some ⟨g, o, none⟩) n c) ((a + 1 : Nat) : Int) s' (a : Int) := Blk.drew R
 have hHeld : Bs w3.drew g o n F := HB.out.chg C (by simp; exact HG.out)
 obtain ⟨z, hz⟩ : ∃ z, z = w3.drew := ⟨_, rfl⟩
 rw [← hz] at hHeld C BR R ⊢
 clear hz
 refine lv (.int .i64 (x : Int)) 0 (some 13) rfl (fun w => ?_) ?_; (· (go_simp; try with_reducible rfl)); try simp only [Act.put, sA]
 refine lv ?_ 1 (some 14) rfl (fun w => ?_) ?_; rotate_left; (· (go_simp; try with_reducible rfl)); try simp only [Act.put, sA]
 refine lv ?_ 5 (some 18) rfl (fun w => ?_) ?_; rotate_left; (· (go_simp; try with_reducible rfl)); try simp only [Act.put, sA]
 refine lt_br 2 10 rfl rfl (by kernel_rfl) rfl rfl (fun K hK => ?_) (fun K hK => ?_)
 · go_simp
   refine (HTG.out _ R).mono ?_
   rintro e w5 ⟨⟨v5, rfl, hf⟩, k5⟩
   exact ⟨rfl, ⟨v5, rfl, hf.lw C.size⟩, C.trans1 k5.wide⟩
 · refine wp_alloc_w 27 rfl (.agg (cmC 0 zN zN)) zeroCm (cmC 0 zN zN) rfl ?_
   intro pb w' hpb BP k
   have HPB : Hid (r < pb ∧ ab < pb ∧ w.heap.size ≤ pb) := by have := Blk.lt R; have := BR.lt; have := C.size; exact ⟨by omega, by omega, by omega⟩
   refine hK.out _ _ (fun _ h => h.chg k (by simp)) ?_
   replace hHeld := hHeld.chg k (by simp)
   replace C := C.trans1 k.wide
   replace R := R.chg k (by simp)
   replace BR := BR.chg k (by simp)
   clear k hpb
   clear hK K
   try simp only [Act.put, sA]
   refine lt_one 2 rfl (by kernel_rfl) rfl (fun K hK => ?_)
   go_simp
   refine (HTG.out _ R).mono ?_
   rintro e w5 ⟨⟨v5, rfl, hf⟩, k5⟩
   exact ⟨rfl, ⟨v5, rfl, hf.lw C.size⟩, C.trans1 k5.wide⟩
theorem pair_gu65 (r n c g o a x : Nat) (F : Nat → Nat) (b : Int) (s s' : ByteArray) (hx : F a = x) (hk : a + 33 ≤ n) (hk2 : n < a + 65) (hn : n < c) (hn2 : c ≤ 9223372036854775807) (w : World) (h : Rd w r (.slice (some ⟨g, o, none⟩) n c) (a : Int) s b) (hB : Bs w g o n F) (hgr : ¬ g = r) :
   Calls Tryz.prog 101 #[.pointer (some ⟨r, 0, none⟩), .string s'] w fun e w' => Gu w.heap.size s' (a : Int) 3 e w' ∧ Chg w w' [r] := by
 have HB : Hid (Bs w g o n F) := hB
 have HG : Hid (¬ g = r) := hgr
 have HR : Hid (Rd w r (.slice (some ⟨g, o, none⟩) n c) (a : Int) s b) := h
 have HL : Hid (r < w.heap.size) := Blk.lt h
 have HGP : Hid (∀ p, w.heap.size ≤ p → ¬ g = p) := fun p hp e => by have := hB.lt; omega
 have HN : Hid (∀ w', Rd w' r (.slice (some ⟨g, o, none⟩) n c) (a : Int) s' (a : Int) → Bs w' g o n F → Calls Tryz.prog 91 #[.pointer (some ⟨r, 0, none⟩), .int .i64 1] w' fun e w'' => e = .returned (.int .u32 (x : Int)) ∧ Rd w'' r (.slice (some ⟨g, o, none⟩) n c) ((a + 1 : Nat) : Int) s' (a : Int) ∧ Chg w' w'' [r]) :=
   fun w' h1 h2 => (number_ok r n c g o a 1 F _ s' (by omega) (by omega) (by omega) (by omega) hn2 w' h1 h2 hgr).mono fun e w'' ⟨h3, h4, h5⟩ => ⟨by rw [h3, show nm F a 1 = x from by simp [nm, hx]], h4, h5⟩
 have HT1 : Hid (∀ w', Rd w' r (.slice (some ⟨g, o, none⟩) n c) ((a + 1 : Nat) : Int) s' (a : Int) → Calls Tryz.prog 90 #[.pointer (some ⟨r, 0, none⟩), .int .i64 32] w' fun e w'' => e = .returned (.slice (some ⟨g, o + (a + 1), none⟩) 32 (c - (a + 1))) ∧ Rd w'' r (.slice (some ⟨g, o, none⟩) n c) ((a + 33 : Nat) : Int) s' (a : Int) ∧ Chg w' w'' [r]) :=
   fun w' h1 => take_ok r n c g o (a + 1) 32 _ s' (by omega) (by omega) (by omega) hn2 w' h1
 have HTG : Hid (∀ w', Rd w' r (.slice (some ⟨g, o, none⟩) n c) ((a + 33 : Nat) : Int) s' (a : Int) → Calls Tryz.prog 90 #[.pointer (some ⟨r, 0, none⟩), .int .i64 32] w' fun e w'' => Gu w'.heap.size s' (a : Int) 3 e w'' ∧ Chg w' w'' []) :=
   fun w' h1 => take_gu r n c 32 _ (a + 33) _ s' (by omega) (by omega) (by omega) (by omega) w' h1
 have hx256 : x < 256 := by rw [← hx]; exact hB.bd a (by omega)
 have ex : IntKind.i64.wrap (x : Int) = (x : Int) := by rw [IntKind.wrap_i64]; omega
 have HA : Hid (a + 33 ≤ n ∧ n < c ∧ c ≤ 9223372036854775807) := ⟨by omega, hn, hn2⟩
 clear hn hn2 h hB hgr hx hx256 hk hk2
 go_enter Tryz.func101, Tryz.ntmps101
 go_wp2_with (with_reducible refine alloc_w rfl 27 rfl (.agg (cmC 0 zN zN)) zeroCm (cmC 0 zN zN) rfl ?_; intro ab w1 hab BR k1)
 have HAB : Hid (r < ab ∧ w.heap.size ≤ ab) := ⟨by have := HL.out; omega, hab⟩
 refine (begin_s r _ _ b s s' w1 (HR.out.chg k1 (by simp))).mono ?_
 rintro e w2 ⟨rfl, R, k2⟩
 have C := (k1.wide (l := [r])).trans1 k2
 replace BR := BR.chg k2 (by have := HAB.out; simp; omega)
 clear k1 k2 hab
 go_wp2_with fail
 refine (HN.out w2 R (HB.out.chg C (by simp; exact HG.out))).mono ?_
 clear R
 rintro e w3 ⟨rfl, R, k3⟩
 replace C := C.trans1 k3
 replace BR := BR.chg k3 (by have := HAB.out; simp; omega)
 clear k3
 go_wp2_with fail
 refine lt_begin (fun w' => Bs w' g o n F) (fun i => i == 11) (by kernel_rfl) ?_
 replace C := C.drew
 replace BR := BR.drew
 replace R : Rd w3.drew r (.slice (some ⟨g, o, none⟩) n c) ((a + 1 : Nat) : Int) s' (a : Int) := Blk.drew R
 have hHeld : Bs w3.drew g o n F := HB.out.chg C (by simp; exact HG.out)
 obtain ⟨z, hz⟩ : ∃ z, z = w3.drew := ⟨_, rfl⟩
 rw [← hz] at hHeld C BR R ⊢
 clear hz
 refine lv (.int .i64 (x : Int)) 0 (some 13) rfl (fun w => ?_) ?_; (· (go_simp; try with_reducible rfl)); try simp only [Act.put, sA]
 refine lv ?_ 1 (some 14) rfl (fun w => ?_) ?_; rotate_left; (· (go_simp; try with_reducible rfl)); try simp only [Act.put, sA]
 refine lv ?_ 5 (some 18) rfl (fun w => ?_) ?_; rotate_left; (· (go_simp; try with_reducible rfl)); try simp only [Act.put, sA]
 refine lt_br 2 10 rfl rfl (by kernel_rfl) rfl rfl (fun K hK => ?_) (fun K hK => ?_)
 · go_simp
   refine (HT1.out _ R).mono ?_
   clear R
   rintro e w' ⟨rfl, R, k⟩
   go_wp2_with fail
   refine hK.out _ _ (fun _ h => h.chg k (by simp; exact HG.out)) ?_
   replace hHeld := hHeld.chg k (by simp; exact HG.out)
   replace C := C.trans1 k
   replace BR := BR.chg k (by have := HAB.out; simp; omega)
   clear k
   clear hK K
   try simp only [Act.put, sA]
   refine lv (.pointer (some ⟨g, o + (a + 1), none⟩)) 3 (some 16) rfl (fun w => ?_) ?_
   · have hat : ∀ W, (Instr.arrayAt 25 (.slice (some ⟨g, o + (a + 1), none⟩) 32 (c - (a + 1)))).run Tryz.prog W = .ok (.pointer (some ⟨g, o + (a + 1), none⟩)) W := fun W => run_arrayAt (w := W) 25 _ 32 _ 32 (c - (a + 1)) Tryz.underlying25 (by omega)
     (go_simp; try with_reducible rfl)
   try simp only [Act.put, sA]
   refine lr (.agg (yC 32 (fun j => F (a + 1 + j)))) 4 (some 17) rfl (fun w hSw => ?_) hHeld ?_
   · exact (exec_load_m w 25 (.tmp 16) rfl g (o + (a + 1)) rfl (yL 32 (fun j => F (a + 1 + j))) _ (hSw.sub (a + 1) 32 (by have := HA.out; omega)).rg Tryz.underlying25 rfl (by rw [yL_len]; exact elInfo))
   try simp only [Act.put, sA]
   refine lt_br 6 10 rfl rfl (by kernel_rfl) rfl rfl (fun K hK => ?_) (fun K hK => ?_)
   · go_simp
     refine (HTG.out _ R).mono ?_
     rintro e w5 ⟨⟨v5, rfl, hf⟩, k5⟩
     exact ⟨rfl, ⟨v5, rfl, hf.lw C.size⟩, C.trans1 k5.wide⟩
   · refine wp_alloc_w 27 rfl (.agg (cmC 0 zN zN)) zeroCm (cmC 0 zN zN) rfl ?_
     intro pb w' hpb BP k
     have HPB : Hid (r < pb ∧ ab < pb ∧ w.heap.size ≤ pb) := by have := Blk.lt R; have := BR.lt; have := C.size; exact ⟨by omega, by omega, by omega⟩
     refine hK.out _ _ (fun _ h => h.chg k (by simp)) ?_
     replace hHeld := hHeld.chg k (by simp)
     replace C := C.trans1 k.wide
     replace R := R.chg k (by simp)
     replace BR := BR.chg k (by simp)
     clear k hpb
     clear hK K
     try simp only [Act.put, sA]
     refine lt_one 6 rfl (by kernel_rfl) rfl (fun K hK => ?_)
     go_simp
     refine (HTG.out _ R).mono ?_
     rintro e w5 ⟨⟨v5, rfl, hf⟩, k5⟩
     exact ⟨rfl, ⟨v5, rfl, hf.lw C.size⟩, C.trans1 k5.wide⟩
 · refine wp_alloc_w 27 rfl (.agg (cmC 0 zN zN)) zeroCm (cmC 0 zN zN) rfl ?_
   intro pb w' hpb BP k
   have HPB : Hid (r < pb ∧ ab < pb ∧ w.heap.size ≤ pb) := by have := Blk.lt R; have := BR.lt; have := C.size; exact ⟨by omega, by omega, by omega⟩
   refine hK.out _ _ (fun _ h => h.chg k (by simp)) ?_
   replace hHeld := hHeld.chg k (by simp)
   replace C := C.trans1 k.wide
   replace R := R.chg k (by simp)
   replace BR := BR.chg k (by simp)
   clear k hpb
   clear hK K
   try simp only [Act.put, sA]
   refine lt_one 2 rfl (by kernel_rfl) rfl (fun K hK => ?_)
   go_simp
   refine (HT1.out _ R).mono ?_
   clear R
   rintro e w' ⟨rfl, R, k⟩
   go_wp2_with fail
   refine hK.out _ _ (fun _ h => h.chg k (by simp; exact HG.out)) ?_
   replace hHeld := hHeld.chg k (by simp; exact HG.out)
   replace C := C.trans1 k
   replace BP := BP.chg k (by have := HPB.out; simp; omega)
   replace BR := BR.chg k (by have := HAB.out; simp; omega)
   clear k
   clear hK K
   try simp only [Act.put, sA]
   refine lv (.pointer (some ⟨g, o + (a + 1), none⟩)) 3 (some 16) rfl (fun w => ?_) ?_
   · have hat : ∀ W, (Instr.arrayAt 25 (.slice (some ⟨g, o + (a + 1), none⟩) 32 (c - (a + 1)))).run Tryz.prog W = .ok (.pointer (some ⟨g, o + (a + 1), none⟩)) W := fun W => run_arrayAt (w := W) 25 _ 32 _ 32 (c - (a + 1)) Tryz.underlying25 (by omega)
     (go_simp; try with_reducible rfl)
   try simp only [Act.put, sA]
   refine lr (.agg (yC 32 (fun j => F (a + 1 + j)))) 4 (some 17) rfl (fun w hSw => ?_) hHeld ?_
   · exact (exec_load_m w 25 (.tmp 16) rfl g (o + (a + 1)) rfl (yL 32 (fun j => F (a + 1 + j))) _ (hSw.sub (a + 1) 32 (by have := HA.out; omega)).rg Tryz.underlying25 rfl (by rw [yL_len]; exact elInfo))
   try simp only [Act.put, sA]
   refine lt_one 6 rfl (by kernel_rfl) rfl (fun K hK => ?_)
   go_simp
   refine (HTG.out _ R).mono ?_
   rintro e w5 ⟨⟨v5, rfl, hf⟩, k5⟩
   exact ⟨rfl, ⟨v5, rfl, hf.lw C.size⟩, C.trans1 k5.wide⟩
end Go.Proofs.YtgjclegpnbjlkaaGreatDoor
