/- ScalarLists: the walk. -/
import Derived.Test.YtcdgkhejbdlapaaGvI
import Derived.Test.YtcdgkhejbdlapaaLst4
import Derived.Test.YtcdgkhejbdlapaaWorks
set_option linter.unusedVariables false
set_option linter.unusedSimpArgs false
set_option linter.unnecessarySimpa false
namespace Go.Proofs.Ytcdgkhejbdlapaa
open Go.RowKit N

/-- A Given that has nothing. -/
def gNil : Nat → Value := fun _ => .slice none 0 0
theorem zGiven : #[Value.slice none 0 0, .slice none 0 0, .slice none 0 0, .slice none 0 0, .slice none 0 0, .slice none 0 0, .slice none 0 0, .slice none 0 0, .slice none 0 0, .slice none 0 0, .slice none 0 0, .slice none 0 0, .slice none 0 0, .slice none 0 0, .slice none 0 0, .slice none 0 0, .slice none 0 0, .slice none 0 0, .slice none 0 0, .slice none 0 0, .slice none 0 0, .slice none 0 0, .slice none 0 0, .slice none 0 0, .slice none 0 0, .slice none 0 0, .slice none 0 0, .slice none 0 0, .slice none 0 0, .slice none 0 0] = gvC gNil := by kernel_rfl
theorem Gv.none {w : World} {gb base : Nat} {p : Nat} {TG TE T : TypeId} {s : Nat} (h : Blk w gb (gvC gNil) TG) (N : Nat → Nat) (F : Nat → Nat → List Value) : Gv w gb base gNil p TG TE T s 0 N F :=
  ⟨h, [], [], World.ownsRow_nil _ _ _ _, World.ownsRow_nil _ _ _ _, fun x hx => by simp [ob, gNil, Value.ownBlock] at hx, fun j hj => by omega⟩
theorem Gv.ge {w : World} {gb base : Nat} {G : Nat → Value} {p : Nat} {TG TE T : TypeId} {s Kn : Nat} {N : Nat → Nat} {F : Nat → Nat → List Value} (h : Gv w gb base G p TG TE T s Kn N F) (hb : base ≤ gb) : ∀ x, x ∈ gch gb G p → base ≤ x := by
  obtain ⟨vs, us, l1, l2, _⟩ := h.lists
  intro x hx
  rcases List.mem_cons.1 hx with e | hx
  · omega
  · rcases List.mem_append.1 hx with hx | hx
    · exact (l1.lt x (by unfold ob at hx; simpa using hx)).1
    · exact (l2.lt x (by unfold ob at hx; simpa using hx)).1
/-- The copy that is handed in, as a list. -/
theorem copy_ls {w : World} {o n m : Nat} {f : Nat → Nat} {mk : Nat → List Value} (h : Blk w o (rL 32 m (gvR mk (fR f) n)).toArray 24) (hmk : ∀ i, (mk i).length = 32 ∧ ∀ v ∈ mk i, v.oneCell' = true) (hn : n ≤ m) (hm : m ≤ 9223372036854775807)
    (hf : ∀ i, i < n → f i < 115792089237316195423570985008687907853269984665640564039457584007913129639936) : Ls w (.slice (some ⟨o, 0, none⟩) n m) n f := by
  refine Rl.ls ⟨fR_ok n f, Or.inr ⟨o, 0, m, rfl, hn, hm, h.lt, fun i hi => ?_⟩⟩ hf
  have q := h.rangeRw (gvR_ok hmk (fR_ok n f) n (Nat.le_refl _)) (show i < m by omega)
  have e : gvR mk (fR f) n i = fR f i := by unfold gvR; rw [if_pos hi]
  rw [e] at q
  rw [Nat.zero_add]
  exact q
/-- What stands in the copies and their twins is numbers. -/
theorem gv_num {n : Nat} {f : Nat → Nat} (hf : ∀ i, i < n → f i < 115792089237316195423570985008687907853269984665640564039457584007913129639936) :
    ∃ h : Nat → Nat, gvR (fR (mkS 987)) (fR f) n = fR h ∧ ∀ i, h i < 115792089237316195423570985008687907853269984665640564039457584007913129639936 := by
  refine ⟨fun i => if i < n then f i else mkS 987 i, ?_, fun i => ?_⟩
  · funext i
    unfold gvR
    by_cases h : i < n
    · rw [if_pos h]; simp only [fR, if_pos h]
    · rw [if_neg h]; simp only [fR, if_neg h]
  · show (if i < n then f i else mkS 987 i) < _
    by_cases h : i < n
    · rw [if_pos h]; exact hf i h
    · rw [if_neg h]; exact mkS_lt _ _
/-- Both Dots, of lists of whatever lengths. -/
theorem dot_both (N M : Nat) (f g : Nat → Nat) (hN : N ≤ 140737488355328) : ∃ D E : Int, (∀ w v u, Ls w v N f → Ls w u M g → Calls Try.prog 45 #[v, u] w fun e w' => e = .returned (.tuple #[fe D, .int .i64 E]) ∧ Chg w w' []) ∧
    (∀ w v u, Ls w v N f → Ls w u M g → Calls Try.prog 46 #[v, u] w fun e w' => e = .returned (.tuple #[fe D, .int .i64 E]) ∧ Chg w w' []) := by
  by_cases h : N = M
  · subst h
    exact ⟨_, 0, fun w v u h1 h2 => Dot_s v u N f g hN w h1 h2 _ rfl, fun w v u h1 h2 => Dot_r v u N f g hN w h1 h2 _ rfl⟩
  · exact ⟨0, 8, fun w v u h1 h2 => Dot_count v u N M f g h w h1 h2, fun w v u h1 h2 => Dot_rcount v u N M f g h w h1 h2⟩
set_option maxHeartbeats 16000000 in
set_option maxRecDepth 100000 in
theorem lists_walk (v u : Value) (N M : Nat) (f g : Nat → Nat) (hN : N ≤ 4398046511000) (hM : M ≤ 4398046511000) (w : World) (hL : Ls w v N f) (hU : Ls w u M g) :
    Calls Try.prog 7 #[v, u] w fun e w' => e = .returned (.bool true) ∧ Chg w w' [] := by
  have hge := feGuard
  obtain ⟨D, E, hds, hdr⟩ := dot_both N M f g (by omega)
  have HDS : Hid (∀ w v u, Ls w v N f → Ls w u M g → Calls Try.prog 45 #[v, u] w fun e w' => e = .returned (.tuple #[fe D, .int .i64 E]) ∧ Chg w w' []) := hds
  have HDR : Hid (∀ w v u, Ls w v N f → Ls w u M g → Calls Try.prog 46 #[v, u] w fun e w' => e = .returned (.tuple #[fe D, .int .i64 E]) ∧ Chg w w' []) := hdr
  obtain ⟨S, hS⟩ : ∃ S, sL f N % L = S := ⟨_, rfl⟩
  have HS : Hid (sL f N % L = S) := hS
  obtain ⟨P, hP⟩ : ∃ P, pL f N % L = P := ⟨_, rfl⟩
  have HP : Hid (pL f N % L = P) := hP
  have HN : Hid (N ≤ 4398046511000) := hN
  have HM : Hid (M ≤ 4398046511000) := hM
  have hf := hL.1
  have hg := hU.1
  have z1 : eqf S S = true := eqf_self _
  have z2 : eqf P P = true := eqf_self _
  have z3 : eqf D D = true := eqf_self _
  have B0 : Blk (w.alloc (.cells (gvC gNil) 42)) w.heap.size (gvC gNil) 42 := Blk.new _ _ _
  have C0 : Chg w (w.alloc (.cells (gvC gNil) 42)) [] := (Chg.refl w []).alloc _
  have G0 : Gv (w.alloc (.cells (gvC gNil) 42)) w.heap.size w.heap.size gNil 8 42 60 24 32 0 (fun _ => 0) (fun _ _ => []) := Gv.none B0 _ _
  have HF : Hid (∀ i, i < N → f i < 115792089237316195423570985008687907853269984665640564039457584007913129639936) := hf
  have HG : Hid (∀ i, i < M → g i < 115792089237316195423570985008687907853269984665640564039457584007913129639936) := hg
  have W0 : w.heap.size ≤ (w.alloc (.cells (gvC gNil) 42)).heap.size := C0.size
  have HR : Hid (Rl (w.alloc (.cells (gvC gNil) 42)) 32 v N (fR f)) := hL.rl.chg C0 (Off.nil _)
  clear hds hdr hS hP hN hM hf hg B0
  go_enter Try.func7, Try.ntmps7
  go_wp2_with fail
  rw [zGiven]
  generalize w.alloc (.cells (gvC gNil) 42) = w0 at *
  obtain ⟨gb, hgb⟩ : ∃ b, w.heap.size = b := ⟨_, rfl⟩
  have HGB : Hid (w.heap.size = gb) := hgb
  rw [hgb] at G0 W0
  rw [hgb]
  clear hgb
  refine (GivenScalars_s gb N gb 0 v f gNil _ _ w0 (by have := HN.out; omega) (by decide) W0 HR.out G0).mono ?_
  rintro e w1 ⟨r, rfl, o, la, lb, rfl, ho, c1, bo, G1⟩
  have C1 : Chg w w1 [] := C0.trans c1 (fun x hx => Or.inr (by have := G0.ge (Nat.le_refl _) x hx; have := HGB.out; omega))
  have W1 := Nat.le_trans W0 c1.size
  have hr1 := hU.rl.chg C1 (Off.nil _)
  have HBO : Hid (Blk w1 o (rL 32 (N + 3) (gvR (fR (mkS 987)) (fR f) N)).toArray 24) := bo
  have HG1 : Hid _ := G1
  clear c1 G0 C0 HR W0 bo ho
  obtain ⟨Ga, hGa⟩ : ∃ G, upV (upV gNil 8 la) (8 + 1) lb = G := ⟨_, rfl⟩
  have HGa : Hid (∀ q, q < 30 → ¬ q = 8 → ¬ q = 9 → Ga q = .slice none 0 0) := fun q _ h1 h2 => by rw [← hGa, upV_other _ _ _ _ h2, upV_other _ _ _ _ h1]; rfl
  rw [hGa] at G1
  clear HG1 hGa
  obtain ⟨m1, hm1⟩ : ∃ m, N + 3 = m := ⟨_, rfl⟩
  have HM1 : Hid (N + 3 = m1) := hm1
  rw [hm1]
  go_wp2_with fail
  refine (GivenScalars_s gb M gb 1 u g Ga _ _ w1 (by have := HM.out; omega) (by decide) W1 hr1 G1).mono ?_
  rintro e w2 ⟨r, rfl, o2, la2, lb2, rfl, ho2, c2, bo2, G2⟩
  have C2 : Chg w w2 [] := C1.trans c2 (fun x hx => Or.inr (by have := G1.ge (Nat.le_refl _) x hx; have := HGB.out; omega))
  have X1 : Ls w2 (.slice (some ⟨o, 0, none⟩) N (N + 3)) N f := copy_ls (HBO.out.chg c2 (G1.off HBO.out (by decide) (by decide))) mk_ok (by omega) (by have := HN.out; omega) HF.out
  have X2 : Ls w2 (.slice (some ⟨o2, 0, none⟩) M (M + 3)) M g := copy_ls bo2 mk_ok (by omega) (by have := HM.out; omega) HG.out
  have X3 := hL.chg C2 (Off.nil _)
  have X4 := hU.chg C2 (Off.nil _)
  rw [hm1] at X1
  obtain ⟨Gb, hGb⟩ : ∃ G, upV (upV Ga 8 la2) (8 + 1) lb2 = G := ⟨_, rfl⟩
  have HGb : Hid (∀ q, q < 30 → ¬ q = 8 → ¬ q = 9 → Gb q = .slice none 0 0) := fun q h0 h1 h2 => by rw [← hGb, upV_other _ _ _ _ h2, upV_other _ _ _ _ h1]; exact HGa.out q h0 h1 h2
  rw [hGb] at G2
  obtain ⟨m2, hm2⟩ : ∃ m, M + 3 = m := ⟨_, rfl⟩
  have HM2 : Hid (M + 3 = m2) := hm2
  rw [hm2] at X2
  rw [hm2]
  clear c2 G1 C1 W1 hr1 HBO hGb hm1 hm2 hL hU bo2 ho2 HGa
  go_wp2_with fail
  refine (HDS.out _ _ _ X1 X2).mono ?_
  rintro e w3 ⟨rfl, k⟩
  replace X1 := X1.chg k (Off.nil _)
  replace X2 := X2.chg k (Off.nil _)
  replace X3 := X3.chg k (Off.nil _)
  replace X4 := X4.chg k (Off.nil _)
  replace G2 := G2.chg k
  replace C2 := C2.trans1 k
  clear k
  have BX := Blk.new w3 z32 24
  have KS : Chg w3 ((w3.alloc (.cells z32 24)).setRow w3.heap.size (feC D)) [] := ((Chg.refl w3 []).alloc (.cells z32 24)).setRowNew (Nat.le_refl _) _
  replace X1 := X1.chg KS (Off.nil _)
  replace X2 := X2.chg KS (Off.nil _)
  replace X3 := X3.chg KS (Off.nil _)
  replace X4 := X4.chg KS (Off.nil _)
  replace G2 := G2.chg KS
  replace C2 := C2.trans1 KS
  clear KS
  go_wp2_with (refine wpList_store_row rfl 24 _ _ rfl w3.heap.size (feC D) rfl rfl 24 _ BX feInfo rfl (feC_one _) ?_)
  replace BX := BX.setRow (feC D)
  try (change Calls Try.prog _ _ ((w3.alloc (.cells z32 24)).setRow w3.heap.size (feC D)) _)
  generalize ((w3.alloc (.cells z32 24)).setRow w3.heap.size (feC D)) = w4 at *
  generalize w3.heap.size = gx at *
  refine (HDR.out _ _ _ X3 X4).mono ?_
  rintro e w5 ⟨rfl, k⟩
  replace X1 := X1.chg k (Off.nil _)
  replace X2 := X2.chg k (Off.nil _)
  replace X3 := X3.chg k (Off.nil _)
  replace X4 := X4.chg k (Off.nil _)
  replace G2 := G2.chg k
  replace C2 := C2.trans1 k
  replace BX := BX.chg k (by simp)
  clear k
  have BY := Blk.new w5 z32 24
  have KS : Chg w5 ((w5.alloc (.cells z32 24)).setRow w5.heap.size (feC D)) [] := ((Chg.refl w5 []).alloc (.cells z32 24)).setRowNew (Nat.le_refl _) _
  replace X1 := X1.chg KS (Off.nil _)
  replace X2 := X2.chg KS (Off.nil _)
  replace X3 := X3.chg KS (Off.nil _)
  replace X4 := X4.chg KS (Off.nil _)
  replace G2 := G2.chg KS
  replace C2 := C2.trans1 KS
  replace BX := BX.chg KS (by simp)
  clear KS
  go_wp2_with (refine wpList_store_row rfl 24 _ _ rfl w5.heap.size (feC D) rfl rfl 24 _ BY feInfo rfl (feC_one _) ?_)
  replace BY := BY.setRow (feC D)
  try (change Calls Try.prog _ _ ((w5.alloc (.cells z32 24)).setRow w5.heap.size (feC D)) _)
  generalize ((w5.alloc (.cells z32 24)).setRow w5.heap.size (feC D)) = w6 at *
  generalize w5.heap.size = gy at *
  refine (Sum_s _ N f (by have := HN.out; omega) _ X1 S HS.out).mono ?_
  rintro e w7 ⟨rfl, k⟩
  replace X1 := X1.chg k (Off.nil _)
  replace X3 := X3.chg k (Off.nil _)
  replace G2 := G2.chg k
  replace C2 := C2.trans1 k
  replace BX := BX.chg k (by simp)
  replace BY := BY.chg k (by simp)
  clear k
  go_wp2_with fail
  refine (Sum_r _ N f (by have := HN.out; omega) _ X3 S HS.out).mono ?_
  rintro e w8 ⟨rfl, k⟩
  replace X1 := X1.chg k (Off.nil _)
  replace X3 := X3.chg k (Off.nil _)
  replace G2 := G2.chg k
  replace C2 := C2.trans1 k
  replace BX := BX.chg k (by simp)
  replace BY := BY.chg k (by simp)
  clear k
  go_wp2_with fail
  refine (Product_s _ N f (by have := HN.out; omega) _ X1 P HP.out).mono ?_
  rintro e w9 ⟨rfl, k⟩
  replace X1 := X1.chg k (Off.nil _)
  replace X3 := X3.chg k (Off.nil _)
  replace G2 := G2.chg k
  replace C2 := C2.trans1 k
  replace BX := BX.chg k (by simp)
  replace BY := BY.chg k (by simp)
  clear k
  go_wp2_with fail
  refine (Product_r _ N f (by have := HN.out; omega) _ X3 P HP.out).mono ?_
  rintro e w10 ⟨rfl, k⟩
  replace X1 := X1.chg k (Off.nil _)
  replace X3 := X3.chg k (Off.nil _)
  replace G2 := G2.chg k
  replace C2 := C2.trans1 k
  replace BX := BX.chg k (by simp)
  replace BY := BY.chg k (by simp)
  clear k
  go_wp2_with (first | (refine gl_load (by rfl) 24 (.tmp 8) rfl gx rfl 24 _ _ BX Try.underlying24 rfl feInfo ?_) | (refine gl_load (by rfl) 24 (.tmp 10) rfl gy rfl 24 _ _ BY Try.underlying24 rfl feInfo ?_))
  refine (num_s E _).mono ?_
  rintro e w11 ⟨rfl, rfl⟩
  go_wp2_with fail
  refine (Intact_s gb gb (1 + 1) Gb _ _ _ (by decide) G2 HGb.out ?_ ?_).mono ?_
  · intro j hj
    have h1 := HN.out
    have h2 := HM.out
    show (if j = 1 then M + 3 else if j = 0 then N + 3 else 0) ≤ _
    split
    · omega
    · split <;> omega
  · intro j hj
    obtain ⟨q, hq1, hq2⟩ := gv_num HF.out
    obtain ⟨p, hp1, hp2⟩ := gv_num HG.out
    by_cases h1 : j = 1
    · subst h1
      exact ⟨p, by rw [if_pos rfl]; exact hp1, fun i _ => hp2 i⟩
    · obtain rfl : j = 0 := by omega
      exact ⟨q, by rw [if_neg (by decide), if_pos rfl]; exact hq1, fun i _ => hq2 i⟩
  rintro e w12 ⟨rfl, k⟩
  replace C2 := C2.trans1 k
  clear k
  go_wp2_with fail
  refine (works_true _).mono ?_
  rintro e w13 ⟨rfl, k⟩
  replace C2 := C2.trans1 k
  clear k
  go_wp2_with fail
  go_ret
  exact ⟨rfl, C2⟩
end Go.Proofs.Ytcdgkhejbdlapaa
