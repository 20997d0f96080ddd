/- For every list l of 32-byte values, rimelaw01.FieldInverses returns true and its argument reads afterwards as it read before. No condition. -/
import Derived.Test.YtialljmkkichiaaFMc
import Derived.Test.YtialljmkkichiaaFMd
import Derived.Test.YtialljmkkichiaaOpen
import Derived.Test.YtialljmkkichiaaByt
import Derived.Deep.Slices
import Derived.SizedLaws
import Derived.Below
import Derived.Test.YtialljmkkichiaaRows
set_option linter.unusedVariables false
set_option linter.unusedSimpArgs false
set_option linter.unnecessarySimpa false
namespace Go.Proofs.Ytialljmkkichiaa
section
open Go.RowKit N

/-- A Given that has nothing. -/
def gNil : Nat → Value := fun _ => .slice none 0 0
theorem zGiven : #[Value.slice none 0 0, .slice none 0 0, .slice none 0 0, .slice none 0 0, .slice none 0 0, .slice none 0 0, .slice none 0 0, .slice none 0 0, .slice none 0 0, .slice none 0 0, .slice none 0 0, .slice none 0 0, .slice none 0 0, .slice none 0 0, .slice none 0 0, .slice none 0 0, .slice none 0 0, .slice none 0 0, .slice none 0 0, .slice none 0 0, .slice none 0 0, .slice none 0 0, .slice none 0 0, .slice none 0 0, .slice none 0 0, .slice none 0 0, .slice none 0 0, .slice none 0 0, .slice none 0 0, .slice none 0 0] = gvC gNil := by kernel_rfl
theorem Gv.none {w : World} {gb base : Nat} {p : Nat} {TG TE T : TypeId} {s : Nat} (h : Blk w gb (gvC gNil) TG) (N : Nat → Nat) (F : Nat → Nat → List Value) : Gv w gb base gNil p TG TE T s 0 N F :=
  ⟨h, [], [], World.ownsRow_nil _ _ _ _, World.ownsRow_nil _ _ _ _, fun x hx => by simp [ob, gNil, Value.ownBlock] at hx, fun j hj => by omega⟩
theorem Gv.ge {w : World} {gb base : Nat} {G : Nat → Value} {p : Nat} {TG TE T : TypeId} {s Kn : Nat} {N : Nat → Nat} {F : Nat → Nat → List Value} (h : Gv w gb base G p TG TE T s Kn N F) (hb : base ≤ gb) : ∀ x, x ∈ gch gb G p → base ≤ x := by
  obtain ⟨vs, us, l1, l2, _⟩ := h.lists
  intro x hx
  rcases List.mem_cons.1 hx with e | hx
  · omega
  · rcases List.mem_append.1 hx with hx | hx
    · exact (l1.lt x (by unfold ob at hx; simpa using hx)).1
    · exact (l2.lt x (by unfold ob at hx; simpa using hx)).1
/-- The copy that is handed in, as a list. -/
theorem copy_ls {w : World} {o n m : Nat} {f : Nat → Nat} {mk : Nat → List Value} (h : Blk w o (rL 32 m (gvR mk (fR f) n)).toArray 24) (hmk : ∀ i, (mk i).length = 32 ∧ ∀ v ∈ mk i, v.oneCell' = true) (hn : n ≤ m) (hm : m ≤ 9223372036854775807)
    (hf : ∀ i, i < n → f i < 115792089237316195423570985008687907853269984665640564039457584007913129639936) : Ls w (.slice (some ⟨o, 0, none⟩) n m) n f := by
  refine Rl.ls ⟨fR_ok n f, Or.inr ⟨o, 0, m, rfl, hn, hm, h.lt, fun i hi => ?_⟩⟩ hf
  have q := h.rangeRw (gvR_ok hmk (fR_ok n f) n (Nat.le_refl _)) (show i < m by omega)
  have e : gvR mk (fR f) n i = fR f i := by unfold gvR; rw [if_pos hi]
  rw [e] at q
  rw [Nat.zero_add]
  exact q
/-- What stands in the copies and their twins is numbers. -/
theorem gv_num {n : Nat} {f : Nat → Nat} (hf : ∀ i, i < n → f i < 115792089237316195423570985008687907853269984665640564039457584007913129639936) :
    ∃ h : Nat → Nat, gvR (fR (mkS 987)) (fR f) n = fR h ∧ ∀ i, h i < 115792089237316195423570985008687907853269984665640564039457584007913129639936 := by
  refine ⟨fun i => if i < n then f i else mkS 987 i, ?_, fun i => ?_⟩
  · funext i
    unfold gvR
    by_cases h : i < n
    · rw [if_pos h]; simp only [fR, if_pos h]
    · rw [if_neg h]; simp only [fR, if_neg h]
  · show (if i < n then f i else mkS 987 i) < _
    by_cases h : i < n
    · rw [if_pos h]; exact hf i h
    · rw [if_neg h]; exact mkS_lt _ _
/-- The inverses as numbers. -/
def qv (f : Nat → Nat) : Nat → Nat := fun j => (ivq ((f j : Nat) : Int)).toNat
theorem qv_cast (f : Nat → Nat) (j : Nat) : ((qv f j : Nat) : Int) = ivq ((f j : Nat) : Int) := Int.toNat_of_nonneg (ivq_bd _).1
theorem qv_lt (f : Nat → Nat) (j : Nat) : qv f j < 115792089237316195423570985008687907853269984665640564039457584007913129639936 := by
  have h := (ivq_bd ((f j : Nat) : Int)).2
  rw [← qv_cast] at h
  unfold P at h
  omega
theorem fR_qv (f : Nat → Nat) (j : Nat) : fR (qv f) j = feL (ivq ((f j : Nat) : Int)) := by show feL _ = _; rw [qv_cast]
theorem Rl.cong {w : World} {s : Nat} {v : Value} {N : Nat} {F G : Nat → List Value} (h : Rl w s v N F) (e : ∀ j, j < N → F j = G j) : Rl w s v N G := by
  refine ⟨fun i hi => by rw [← e i hi]; exact h.1 i hi, ?_⟩
  rcases h.2 with h2 | ⟨g, o, cap, he, h1, h2, h3, h4⟩
  · exact Or.inl h2
  · exact Or.inr ⟨g, o, cap, he, h1, h2, h3, fun i hi => by rw [← e i hi]; exact h4 i hi⟩
theorem inv_ls {w : World} {o N : Nat} {f : Nat → Nat} (h : Blk w o (rL 32 N (bkR f 0)).toArray 24) (hN : N ≤ 9223372036854775807) : Ls w (.slice (some ⟨o, 0, none⟩) N N) N (qv f) := by
  refine Rl.ls (Rl.cong (F := bkR f 0) ⟨bkR_ok f 0 N, Or.inr ⟨o, 0, N, rfl, Nat.le_refl _, hN, h.lt, fun i hi => ?_⟩⟩ (fun j _ => ?_)) (fun j _ => qv_lt f j)
  · rw [Nat.zero_add]
    exact h.rangeRw (bkR_ok f 0 N) hi
  · rw [fR_qv]
    exact if_neg (by omega)
theorem own_ls {w : World} {base N : Nat} {r : Value} {f : Nat → Nat} (h : OwnR w base 24 32 r N (fun j => feL (ivq ((f j : Nat) : Int)))) : Ls w r N (qv f) :=
  Rl.ls (h.rl.cong (fun j _ => (fR_qv f j).symm)) (fun j _ => qv_lt f j)
set_option maxHeartbeats 16000000 in
set_option maxRecDepth 100000 in
theorem inverses_walk (v : Value) (N : Nat) (f : Nat → Nat) (hN : N ≤ 4398046511000) (w : World) (hL : Ls w v N f) :
    Calls Try.prog 6 #[v] w fun e w' => e = .returned (.bool true) ∧ Chg w w' [] := by
  have HN : Hid (N ≤ 4398046511000) := hN
  have hf := hL.1
  have B0 : Blk (w.alloc (.cells (gvC gNil) 42)) w.heap.size (gvC gNil) 42 := Blk.new _ _ _
  have C0 : Chg w (w.alloc (.cells (gvC gNil) 42)) [] := (Chg.refl w []).alloc _
  have G0 : Gv (w.alloc (.cells (gvC gNil) 42)) w.heap.size w.heap.size gNil 6 42 63 24 32 0 (fun _ => 0) (fun _ _ => []) := Gv.none B0 _ _
  have HF : Hid (∀ i, i < N → f i < 115792089237316195423570985008687907853269984665640564039457584007913129639936) := hf
  have W0 : w.heap.size ≤ (w.alloc (.cells (gvC gNil) 42)).heap.size := C0.size
  have HR : Hid (Rl (w.alloc (.cells (gvC gNil) 42)) 32 v N (fR f)) := hL.rl.chg C0 (Off.nil _)
  clear hN hf B0
  go_enter Try.func6, Try.ntmps6
  go_wp2_with fail
  rw [zGiven]
  generalize w.alloc (.cells (gvC gNil) 42) = w0 at *
  obtain ⟨gb, hgb⟩ : ∃ b, w.heap.size = b := ⟨_, rfl⟩
  have HGB : Hid (w.heap.size = gb) := hgb
  rw [hgb] at G0 W0
  rw [hgb]
  clear hgb
  refine (GivenFes_s gb N gb 0 v f gNil _ _ w0 (by have := HN.out; omega) (by decide) W0 HR.out G0).mono ?_
  rintro e w1 ⟨r, rfl, o, la, lb, rfl, ho, c1, bo, G1⟩
  have C1 : Chg w w1 [] := C0.trans c1 (fun x hx => Or.inr (by have := G0.ge (Nat.le_refl _) x hx; have := HGB.out; omega))
  have X1 : Ls w1 (.slice (some ⟨o, 0, none⟩) N (N + 3)) N f := copy_ls bo mk_ok (by omega) (by have := HN.out; omega) HF.out
  have X3 := hL.chg C1 (Off.nil _)
  obtain ⟨Ga, hGa⟩ : ∃ G, upV (upV gNil 6 la) (6 + 1) lb = G := ⟨_, rfl⟩
  have HGa : Hid (∀ q, q < 30 → ¬ q = 6 → ¬ q = 7 → Ga q = .slice none 0 0) := fun q _ h1 h2 => by rw [← hGa, upV_other _ _ _ _ h2, upV_other _ _ _ _ h1]; rfl
  rw [hGa] at G1
  obtain ⟨m1, hm1⟩ : ∃ m, N + 3 = m := ⟨_, rfl⟩
  rw [hm1] at X1
  rw [hm1]
  clear c1 G0 C0 HR W0 bo ho hGa hm1 hL
  go_wp2_with fail
  refine (InvertAll_f _ N f (by have := HN.out; omega) w1 X1).mono ?_
  rintro e w2 ⟨o2, rfl, b2, k⟩
  have Y1 := inv_ls b2 (by have := HN.out; omega)
  replace X3 := X3.chg k (Off.nil _)
  replace G1 := G1.chg k
  replace C1 := C1.trans1 k
  clear k b2 X1
  go_wp2_with fail
  refine (InvertAll_r v N f HN.out w2 X3).mono ?_
  rintro e w3 ⟨r, rfl, OR, k⟩
  have Y2 := own_ls OR
  replace Y1 := Y1.chg k (Off.nil _)
  replace G1 := G1.chg k
  replace C1 := C1.trans1 k
  clear k OR X3
  go_wp2_with fail
  refine (SameFes_t _ _ N (qv f) (by have := HN.out; omega) w3 Y1 Y2).mono ?_
  rintro e w4 ⟨rfl, k⟩
  replace G1 := G1.chg k
  replace C1 := C1.trans1 k
  clear k Y1 Y2
  go_wp2_with fail
  refine (Intact_s gb gb (0 + 1) Ga _ _ _ (by decide) G1 HGa.out ?_ ?_).mono ?_
  · intro j hj
    have h1 := HN.out
    show (if j = 0 then N + 3 else 0) ≤ _
    split <;> omega
  · intro j hj
    obtain ⟨q, hq1, hq2⟩ := gv_num HF.out
    obtain rfl : j = 0 := by omega
    exact ⟨q, by rw [if_pos rfl]; exact hq1, fun i _ => hq2 i⟩
  rintro e w5 ⟨rfl, k⟩
  replace C1 := C1.trans1 k
  clear k
  go_wp2_with fail
  refine (alive_true _).mono ?_
  rintro e w6 ⟨rfl, k⟩
  replace C1 := C1.trans1 k
  clear k
  go_wp2_with fail
  go_ret
  exact ⟨rfl, C1⟩
end
section
section
open Go.ChangeShapes Go.WideShapes Go.ChangeAt Go.RowKit Go.Deep N

theorem u8Bytes : Try.prog.bytesOf 5 = 1 := by kernel_rfl
theorem nat_r256 {a : Int} (ra : R256 a) : ∃ n : Nat, a = (n : Int) ∧ n < 115792089237316195423570985008687907853269984665640564039457584007913129639936 := by
  obtain ⟨n, rfl⟩ := Int.eq_ofNat_of_zero_le ra.1
  exact ⟨n, rfl, by unfold R256 at ra; omega⟩
theorem shape_lt {w : World} {b : Nat} {x : TypeId × Nat} (h : w.shape? b = some x) : b < w.heap.size := by
  unfold World.shape? at h
  by_cases hb : b < w.heap.size
  · exact hb
  · rw [Array.getElem?_eq_none (by omega)] at h
    simp at h
set_option maxRecDepth 100000 in
/-- 32 cells that read as an api.Scalar are the bytes of some number. -/
theorem open_cells {H : Type} {enc : TypeId × Value → H} {w : World} {base fuel : Nat} {spare : Nat → Bool} {held : Bool} {cs : List Value} {x : DataW H × List MemPlace}
    (hlen0 : cs.length = 32) (hf : DataW.trod enc Try.prog w base spare held fuel 24 cs = some x) : ∃ n : Nat, n < 115792089237316195423570985008687907853269984665640564039457584007913129639936 ∧ ∀ i, i < 32 → cs[i]? = some (.int .u8 (by8 (n : Int) i)) := by
  obtain ⟨xs, m, _, _, _, hlen, hall⟩ := DataW.trod_array Try.underlying24 hf
  have hb : ∀ i, i < 32 → ∃ b, cs[i]? = some (.int .u8 b) ∧ 0 ≤ b ∧ b < 256 := fun i hi => by
    have h1 := hall i hi
    rw [List.getElem?_eq_getElem (by omega), u8Cells, Nat.mul_one] at h1
    obtain ⟨n, e1, _, wf⟩ := DataW.trod_int Try.underlying5 h1
    have u := u8_wf wf
    have e2 := congrArg (fun l => l[0]?) e1
    simp only [List.getElem?_take, List.getElem?_drop] at e2
    exact ⟨n, by simpa using e2, u.1, u.2⟩
  obtain ⟨b, hb'⟩ : ∃ b : Nat → Int, ∀ i, i < 32 → cs[i]? = some (.int .u8 (b i)) ∧ 0 ≤ b i ∧ b i < 256 := by
    refine ⟨fun i => if hi : i < 32 then (hb i hi).choose else 0, fun i hi => ?_⟩
    simp only [hi, dif_pos]
    exact (hb i hi).choose_spec
  obtain ⟨n, hn, hby⟩ := num_of_bytes b (fun i hi => (hb' i hi).2)
  obtain ⟨k, rfl, hk⟩ := nat_r256 hn
  exact ⟨k, hk, fun i hi => by rw [(hb' i hi).1, hby i hi]⟩
theorem scCells : Try.prog.cellsOf 24 = 32 := by kernel_rfl
set_option maxRecDepth 100000 in
/-- A []api.Scalar that came in. -/
theorem open_scs {H : Type} {enc : TypeId × Value → H} {w : World} {r : Reach} {b0 base : Nat} {spare : Nat → Bool} {held : Bool} {v : Value} {d : DataW H} {p : List MemPlace}
    (hv : Value.okWide Try.prog w r b0 63 v) (h : DataW.Trod enc Try.prog w base spare held 63 v d p) :
    ∃ N f, Ls w v N f ∧ (N = 0 ∨ ∃ elems spare, d = .slice elems spare ∧ elems.length = N) := by
  obtain ⟨fuel, hf⟩ := h
  obtain ⟨a0, l0, c0, rfl⟩ := okWide_slice Try.underlying63 hv
  rcases open_slice Try.underlying63 hf with ⟨h0, _⟩ | ⟨a, len, cap, m, n, D, Pl, h0, _, hl, hc, hm, hd, hx⟩
  · refine ⟨0, fun _ => 0, ⟨fun i hi => by omega, Or.inl ⟨rfl, ?_⟩⟩, Or.inl rfl⟩
    simpa [Value.cells] using h0
  · have h0' : Value.slice a0 l0 c0 = .slice (some a) len cap := by simpa [Value.cells] using h0
    rw [h0'] at hv ⊢
    simp only [Value.okWide, Try.underlying63, Cell.okWide, Cell.ok, World.has] at hv
    obtain ⟨_, _, _, hs, row, cells, hsh, _⟩ := hv
    have hlt := shape_lt hsh
    obtain ⟨g, o, spot⟩ := a
    simp only at hs
    subst hs
    have hml : len ≤ m := by rw [hm]; split <;> omega
    have hex : ∀ i, i < len → ∃ k : Nat, k < 115792089237316195423570985008687907853269984665640564039457584007913129639936 ∧ Fc w g (o + i * 32) (k : Int) := fun i hi => by
      obtain ⟨cs', h1, h2⟩ := hx i (by omega)
      rw [scCells] at h1
      obtain ⟨_, hlen', hcell⟩ := World.cells?_some h1
      obtain ⟨k, hk, hkb⟩ := open_cells hlen' h2
      refine ⟨k, hk, hlt, fun j hj => ?_⟩
      have hc2 := hcell j hj
      rw [Addr.add_mid g o (i * 32), Addr.add_mid g (o + i * 32) j, hkb j hj] at hc2
      exact hc2
    refine ⟨len, fun i => if hi : i < len then (hex i hi).choose else 0, ⟨fun i hi => ?_, Or.inr ⟨g, o, cap, rfl, hl, by simpa [maxLen] using hc, hlt, fun i hi => ?_⟩⟩, Or.inr ⟨_, _, (Prod.mk.inj hd).1, by simp⟩⟩
    · simp only [hi, dif_pos]
      exact (hex i hi).choose_spec.1
    · simp only [hi, dif_pos]
      exact (hex i hi).choose_spec.2
theorem feBytes : Try.prog.bytesOf 24 = 32 := by kernel_rfl
end
section
open Go.ChangeShapes Go.WideShapes Go.ChangeAt Go.RowKit Go.Deep N

set_option maxRecDepth 100000 in
theorem fieldInverses_lifted (os : Os) (started : os.Started) (H : Type) (enc : TypeId × Value → H) :
    ReturnsInHanded {} Try.checked os 6 .any (Rows.fieldInversesSpec.pre6 enc Try.prog Try.f6 Rows.fieldInversesRow.domain false) (Rows.fieldInversesSpec.post enc Try.prog Try.f6 false true false false) := by
  refine returnsInHanded_of_change_sized (C := Try.checked) own started (by kernel_rfl) Try.func6
    (ChangeSpec.witness6 (enc := enc) (C := Try.checked) false ⟨#[], #[.slice none 0 0], []⟩ 8 (by kernel_rfl) (by kernel_rfl) (by kernel_rfl) (by kernel_rfl)) ?_
  intro W base args ds gs before hval0 hW _ hsz0 _
  have hval : ∀ (j : Nat) t v, Try.f6.params[j]? = some t → args[j]? = some v → Value.okWide Try.prog W .any base t v := hval0
  have hsz : (DataW.weightsEach Try.prog (Try.f6.params.toList ++ Rows.fieldInversesSpec.plain.varTypes Try.prog) (ds ++ gs)).all (· ≤ reachBytes) = true := hsz0
  have hW' := hW
  obtain ⟨p, q, hA0, hV, rfl, hfz, hnd⟩ := hW
  have hA : DataW.TrodAll enc Try.prog W 0 (fun _ => true) true Try.f6.params.toList args.toList ds p := hA0
  rw [Try.params6] at hA hval hsz
  obtain ⟨v0, d0, rfl, rfl, h0⟩ := trodAll_one hA
  obtain ⟨rfl, rfl⟩ := trodVars_none hV
  have lt0 : ∀ x ∈ p, x.block < W.heap.size := by obtain ⟨m, hm⟩ := h0; exact DataW.trod_lt m _ _ _ hm
  obtain ⟨N, f, hL, hd⟩ := open_scs (hval 0 63 v0 rfl rfl) h0
  have hn : N ≤ 4398046511000 := by
    rcases hd with rfl | ⟨elems, spare, rfl, he⟩
    · omega
    · have q := sized_slice hsz (j := 0) (t := 63) (e := 24) rfl rfl Try.underlying63
      rw [feBytes, reachBytes] at q
      omega
  clear hA0 hval0
  refine (inverses_walk v0 N f hn W hL).mono fun e W' ⟨he, hc⟩ => ?_
  have bel := hc.below
  subst he
  exact ⟨_, rfl, _, _, _, [], _, [], hW', trodAll_mk1 (shut_bool Try.underlying4 _), (trodAll_cons_mk (Below.trod laidOut (by kernel_rfl) (of_decide_eq_true (by kernel_rfl)) h0 bel lt0) trodAll_mk0), rfl, bel.frame _, fun h => by cases h⟩

theorem fieldInverses_holds : Rows.FieldInversesSaid :=
  OpenClaim.holds_of_wide 6 Try.f6 rfl rfl rfl rfl rfl rfl rfl ⟨rfl, rfl, rfl, rfl, rfl⟩ rfl rfl rfl rfl rfl (by kernel_rfl) Try.func6 (by kernel_rfl)
    (of_decide_eq_true (by kernel_rfl)) (by unfold Func.isWrapper; first | (rw [if_pos (by decide +kernel)]; kernel_rfl) | (rw [if_neg (by decide +kernel)]; exact ⟨rfl, rfl⟩))
    (fun os started H enc _ => fieldInverses_lifted os started H enc)
end
end
end Go.Proofs.Ytialljmkkichiaa
