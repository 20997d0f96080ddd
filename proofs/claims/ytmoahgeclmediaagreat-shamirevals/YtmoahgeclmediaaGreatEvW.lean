/- ShamirEvals: the walk. -/
import Derived.Test.YtmoahgeclmediaaGreatMgG
import Derived.Test.YtmoahgeclmediaaGreatMgE
set_option linter.unusedVariables false
set_option linter.unusedSimpArgs false
set_option linter.unnecessarySimpa false
namespace Go.Proofs.YtmoahgeclmediaaGreat
open Go.RowKit N

def gNi : Nat → Value := fun _ => .slice none 0 0
theorem Gv.noneE {w : World} {gb base : Nat} {p : Nat} {TG TE T : TypeId} {s : Nat} (h : Blk w gb (gvC gNi) TG) (N : Nat → Nat) (F : Nat → Nat → List Value) : Gv w gb base gNi p TG TE T s 0 N F :=
  ⟨h, [], [], World.ownsRow_nil _ _ _ _, World.ownsRow_nil _ _ _ _, fun x hx => by simp [ob, gNi, Value.ownBlock] at hx, fun j hj => by omega⟩
theorem Gv.geE {w : World} {gb base : Nat} {G : Nat → Value} {p : Nat} {TG TE T : TypeId} {s Kn : Nat} {N : Nat → Nat} {F : Nat → Nat → List Value} (h : Gv w gb base G p TG TE T s Kn N F) (hb : base ≤ gb) : ∀ x, x ∈ gch gb G p → base ≤ x := by
  obtain ⟨vs, us, l1, l2, _⟩ := h.lists
  intro x hx
  rcases List.mem_cons.1 hx with e | hx
  · omega
  · rcases List.mem_append.1 hx with hx | hx
    · exact (l1.lt x (by unfold ob at hx; simpa using hx)).1
    · exact (l2.lt x (by unfold ob at hx; simpa using hx)).1
/-- The copy that is handed in, as a list. -/
theorem copy_lsE {w : World} {o n m : Nat} {f : Nat → Nat} {mk : Nat → List Value} (h : Blk w o (rL 32 m (gvR mk (fR f) n)).toArray 24) (hmk : ∀ i, (mk i).length = 32 ∧ ∀ v ∈ mk i, v.oneCell' = true) (hn : n ≤ m) (hm : m ≤ 9223372036854775807)
    (hf : ∀ i, i < n → f i < 115792089237316195423570985008687907853269984665640564039457584007913129639936) : Ls w (.slice (some ⟨o, 0, none⟩) n m) n f := by
  refine Rl.ls ⟨fR_ok n f, Or.inr ⟨o, 0, m, rfl, hn, hm, h.lt, fun i hi => ?_⟩⟩ hf
  have q := h.rangeRw (gvR_ok hmk (fR_ok n f) n (Nat.le_refl _)) (show i < m by omega)
  have e : gvR mk (fR f) n i = fR f i := by unfold gvR; rw [if_pos hi]
  rw [e] at q
  rw [Nat.zero_add]
  exact q
/-- What stands in the copies and their twins is numbers. -/
theorem gv_numE {n : Nat} {f : Nat → Nat} (hf : ∀ i, i < n → f i < 115792089237316195423570985008687907853269984665640564039457584007913129639936) :
    ∃ h : Nat → Nat, gvR (fR (mkS 987)) (fR f) n = fR h ∧ ∀ i, h i < 115792089237316195423570985008687907853269984665640564039457584007913129639936 := by
  refine ⟨fun i => if i < n then f i else mkS 987 i, ?_, fun i => ?_⟩
  · funext i
    unfold gvR
    by_cases h : i < n
    · rw [if_pos h]; simp only [fR, if_pos h]
    · rw [if_neg h]; simp only [fR, if_neg h]
  · show (if i < n then f i else mkS 987 i) < _
    by_cases h : i < n
    · rw [if_pos h]; exact hf i h
    · rw [if_neg h]; exact mkS_lt _ _
theorem copy_ilE {w : World} {o n m : Nat} {f : Nat → Int} (h : Blk w o (rL 1 m (gvR (iF mkJ) (iF f) n)).toArray 3) (hn : n ≤ m) (hm : m ≤ 9223372036854775807) : Il w (.slice (some ⟨o, 0, none⟩) n m) n f := by
  refine Rl.il ⟨iF_ok n f, Or.inr ⟨o, 0, m, rfl, hn, hm, h.lt, fun i hi => ?_⟩⟩
  have q := h.rangeRw (gvR_ok mkJ_ok (iF_ok n f) n (Nat.le_refl _)) (show i < m by omega)
  have e : gvR (iF mkJ) (iF f) n i = iF f i := by unfold gvR; rw [if_pos hi]
  rw [e] at q
  rw [Nat.zero_add]
  exact q
theorem gv_intE (n : Nat) (f : Nat → Int) : ∃ h : Nat → Int, gvR (iF mkJ) (iF f) n = iF h := by
  refine ⟨fun i => if i < n then f i else mkJ i, ?_⟩
  funext i
  unfold gvR iF
  by_cases h : i < n
  · rw [if_pos h]; simp only [if_pos h]
  · rw [if_neg h]; simp only [if_neg h]
/-- The other pair of lists, where a call turned this one. -/
theorem Gv.beside {w w' : World} {gb base : Nat} {G G' : Nat → Value} {p : Nat} {TG TE T : TypeId} {s K : Nat} {N : Nat → Nat} {F : Nat → Nat → List Value} {l : List Nat} (h : Gv w gb base G p TG TE T s K N F) (hb : Blk w' gb (gvC G') TG) (h1 : G' p = G p) (h2 : G' (p + 1) = G (p + 1)) (hc : Chg w w' l)
    (hE : ∀ o C, Blk w o C TE → ¬ o ∈ l) (hT : ∀ o C, Blk w o C T → ¬ o ∈ l) : Gv w' gb base G' p TG TE T s K N F := by
  refine ⟨hb, ?_⟩
  obtain ⟨vs, us, l1, l2, hd, hj⟩ := h.lists
  rw [h1, h2]
  refine ⟨vs, us, ownsRow_chg l1 hc (fun k hk => by obtain ⟨C, q⟩ := ownsRow_blk l1 hk; exact hE k C q), ownsRow_chg l2 hc (fun k hk => by obtain ⟨C, q⟩ := ownsRow_blk l2 hk; exact hE k C q), hd, fun j hjk => ?_⟩
  obtain ⟨o, x, q1, q2, q3, q4, q5⟩ := hj j hjk
  exact ⟨o, x, q1, q2, q3, q4.chg hc (hT o _ q4), q5.chg hc (fun k hk => by obtain ⟨C, q⟩ := ownR_blk q5 hk; exact hT k C q)⟩
theorem zeroGv : (Tryz.prog.info? 42).bind (·.zero) = some (.agg (gvC gNi)) := by kernel_rfl
/-- What At answers. -/
def atV (f : Nat → Nat) (N : Nat) (d : Int) : Int := if okI d then ev f d 0 N else 0
def atE (d : Int) : Int := if okI d then 0 else 4
set_option maxHeartbeats 8000000 in
set_option maxRecDepth 100000 in
theorem At_s (v : Value) (N : Nat) (f : Nat → Nat) (hN : N ≤ 4611686018427387904) (d : Int) (w : World) (hL : Ls w v N f) :
    Calls Tryz.prog 9 #[v, .int .i64 d] w fun e w' => e = .returned (.tuple #[fe (atV f N d), .int .i64 (atE d)]) ∧ Chg w w' [] := by
  unfold atV atE
  by_cases h : 1 ≤ d ∧ d ≤ 255
  · have ho := okI_t h
    have HP : Hid (0 ≤ d ∧ d < 9223372036854775808) := by show 0 ≤ d ∧ d < 9223372036854775808; omega
    have HR : Hid (R256 d) := by show R256 d; unfold R256; omega
    rw [ho, if_pos rfl, if_pos rfl]
    clear h
    go_enter Tryz.func9, Tryz.ntmps9
    go_wp2_with (first
      | (with_reducible refine alloc_w rfl 24 rfl (.agg z32) zeroSc z32 rfl ?_; intro rb w2 hrb Br k2)
      | (go_at_call 39; refine (isID_s _ _).mono ?_; rintro e w' ⟨rfl, rfl⟩; rw [ho]))
    refine (place_s d HP.out _).mono ?_
    rintro e w3 ⟨rfl, k3⟩
    go_wp2_with fail
    refine (Eval_s v N f hN d HR.out _ ((hL.chg0 k2).chg0 k3)).mono ?_
    rintro e w4 ⟨rfl, k4⟩
    go_wp2_with (refine store_w ((Br.chg k3 (by simp)).chg k4 (by simp)) rfl 24 _ _ (feC (ev f d 0 N)) rfl rfl rfl feInfo rfl (feC_one _) ?_; intro w7 B7 k7)
    exact bodyPost_ret (results_cell_tmp Tryz.results9 _ _ rb 24 (feC (ev f d 0 N)) _ _ rfl rfl B7 Tryz.underlying24 rfl feInfo) rfl ⟨rfl, ((((Chg.refl w []).trans1 k2).trans1 k3).trans1 k4).new k7 hrb⟩
  · have ho := okI_f h
    rw [ho]
    clear h
    go_enter Tryz.func9, Tryz.ntmps9
    go_wp2_with (first
      | (with_reducible refine alloc_w rfl 24 rfl (.agg z32) zeroSc z32 rfl ?_; intro rb w2 hrb Br k2)
      | (go_at_call 39; refine (isID_s _ _).mono ?_; rintro e w' ⟨rfl, rfl⟩; rw [ho])
      | (refine gl_build (by rfl) 24 #[] rfl (feC 0) (by kernel_rfl) ?_)
      | (refine store_w Br rfl 24 _ _ (feC 0) rfl rfl rfl feInfo rfl (feC_one _) ?_; intro w7 B7 k7))
    exact bodyPost_ret (results_cell_tmp Tryz.results9 _ _ rb 24 (feC 0) _ _ rfl rfl B7 Tryz.underlying24 rfl feInfo) rfl ⟨rfl, ((Chg.refl w []).trans1 k2).new k7 hrb⟩
theorem At_r (v : Value) (N : Nat) (f : Nat → Nat) (hN : N ≤ 4611686018427387904) (d : Int) (w : World) (hL : Ls w v N f) :
    Calls Tryz.prog 10 #[v, .int .i64 d] w fun e w' => e = .returned (.tuple #[fe (atV f N d), .int .i64 (atE d)]) ∧ Chg w w' [] := by
  unfold atV atE
  by_cases h : 1 ≤ d ∧ d ≤ 255
  · rw [okI_t h, if_pos rfl, if_pos rfl]; exact At_rok v N f hN d h w hL
  · rw [okI_f h]; exact At_rbad v d h w
/-- How many shares Split answers. -/
def spN (d : Nat → Int) (N : Nat) : Nat := if idR d N = 0 then N else 0
theorem spN_no {d : Nat → Int} {N : Nat} (h : ¬ idR d N = 0) : spN d N = 0 := if_neg h
theorem spN_ok {d : Nat → Int} {N : Nat} (h : idR d N = 0) : spN d N = N := if_pos h
theorem spN_le (d : Nat → Int) (N : Nat) : spN d N ≤ 255 := by
  by_cases h : idR d N = 0
  · rw [spN_ok h]; exact idE_len (idR_zero h).1
  · rw [spN_no h]; omega
theorem hl_none (w : World) (d y : Nat → Int) : Hl w (.slice none 0 0) 0 d y := ⟨⟨hF_ok 0 d y, Or.inl ⟨rfl, rfl⟩⟩, fun j hj => by omega⟩
theorem Split_s2 (v u : Value) (M : Nat) (f : Nat → Nat) (hM : M ≤ 4611686018427387904) (N : Nat) (d : Nat → Int) (hN : N ≤ 4611686018427387904) (w : World) (hC : Ls w v M f) (hI : Il w u N d) :
    Calls Tryz.prog 11 #[v, u] w fun e w' => ∃ r, e = .returned (.tuple #[r, .int .i64 (idR d N)]) ∧ Hl w' r (spN d N) d (fun i => ev f (d i) 0 M) ∧ Chg w w' [] := by
  refine (Split_s v u M f hM N d hN w hC hI).mono ?_
  rintro e w' ⟨(⟨h, rfl⟩ | ⟨h, g, hg, rfl, hb⟩), k⟩
  · exact ⟨_, rfl, by rw [spN_no h]; exact hl_none _ _ _, k⟩
  · have hl := idE_len (idR_zero h).1
    exact ⟨_, by rw [h], by rw [spN_ok h]; exact hb.hl (by omega) (fun j _ => r256_rl (ev_rl f _ _ _)) (Nat.le_refl _), k⟩
theorem Split_r2 (v u : Value) (M : Nat) (f : Nat → Nat) (hM : M ≤ 4611686018427387904) (N : Nat) (d : Nat → Int) (hN : N ≤ 4611686018427387904) (w : World) (hC : Ls w v M f) (hI : Il w u N d) :
    Calls Tryz.prog 13 #[v, u] w fun e w' => ∃ r, e = .returned (.tuple #[r, .int .i64 (idR d N)]) ∧ Hl w' r (spN d N) d (fun i => ev f (d i) 0 M) ∧ Chg w w' [] := by
  refine (Split_r v u M f hM N d hN w hC hI).mono ?_
  rintro e w' ⟨⟨r, rfl, (⟨h, rfl⟩ | ⟨h, hb⟩)⟩, k⟩
  · exact ⟨_, rfl, by rw [spN_no h]; exact hl_none _ _ _, k⟩
  · exact ⟨_, rfl, by rw [spN_ok h]; exact hb, k⟩
theorem idE_vals (f : Nat → Int) : ∀ k, idE f k = 0 ∨ idE f k = 4 ∨ idE f k = 5
  | 0 => Or.inl rfl
  | k + 1 => by
    unfold idE
    rcases idE_vals f k with h | h | h
    · rw [if_pos h]; split
      · split
        · exact Or.inr (Or.inr rfl)
        · exact Or.inl rfl
      · exact Or.inr (Or.inl rfl)
    · rw [if_neg (by rw [h]; decide)]; exact Or.inr (Or.inl h)
    · rw [if_neg (by rw [h]; decide)]; exact Or.inr (Or.inr h)
theorem idR_w (f : Nat → Int) (N : Nat) : IntKind.i64.wrap (idR f N) = idR f N := by
  have h : idR f N = 0 ∨ idR f N = 4 ∨ idR f N = 5 ∨ idR f N = 8 := by
    unfold idR
    split
    · exact Or.inr (Or.inr (Or.inr rfl))
    · rcases idE_vals f N with h | h | h <;> simp [h]
  rw [IntKind.wrap_i64]
  omega
theorem atE_w (d : Int) : IntKind.i64.wrap (atE d) = atE d := by unfold atE; split <;> rfl
set_option maxHeartbeats 32000000 in
set_option maxRecDepth 100000 in
theorem evals_walk (v u : Value) (N M : Nat) (f : Nat → Nat) (q : Nat → Int) (x d : Int) (rx : R256 x) (hN : N ≤ 4398046511000) (hM : M ≤ 17592186044000) (w : World) (hL : Ls w v N f) (hI : Il w u M q) :
    Calls Tryz.prog 3 #[v, fe x, .int .i64 d, u] w fun e w' => e = .returned (.bool true) ∧ Chg w w' [] := by
  have hge := feGuard
  have HN : Hid (N ≤ 4398046511000) := hN
  have HM : Hid (M ≤ 17592186044000) := hM
  have HRx : Hid (R256 x) := rx
  have HF : Hid (∀ i, i < N → f i < 115792089237316195423570985008687907853269984665640564039457584007913129639936) := hL.1
  have HL : Hid (Ls w v N f) := hL
  have HIl : Hid (Il w u M q) := hI
  obtain ⟨Y, hY⟩ : ∃ Y, atV f N d = Y := ⟨_, rfl⟩
  have HY : Hid (atV f N d = Y) := hY
  obtain ⟨E, hE⟩ : ∃ E, atE d = E := ⟨_, rfl⟩
  have HE : Hid (atE d = E) := hE
  have HWE : Hid (IntKind.i64.wrap E = E) := by show _ = _; rw [← hE]; exact atE_w d
  obtain ⟨I, hId⟩ : ∃ I, idR q M = I := ⟨_, rfl⟩
  have HI : Hid (idR q M = I) := hId
  have HWI : Hid (IntKind.i64.wrap I = I) := by show _ = _; rw [← hId]; exact idR_w q M
  obtain ⟨Z, hZ⟩ : ∃ Z, ev f x 0 N = Z := ⟨_, rfl⟩
  have HZ : Hid (ev f x 0 N = Z) := hZ
  clear hN hM rx hL hI hY hE hId hZ
  go_enter Tryz.func3, Tryz.ntmps3
  go_wp2_with (with_reducible refine alloc_w rfl 42 rfl (.agg (gvC gNi)) zeroGv (gvC gNi) rfl ?_; intro gb w2 hgb Bg k2)
  have k1 : Chg w (w.alloc (.cells (feC x) 24)) [] := (Chg.refl w []).alloc _
  have Bx : Blk (w.alloc (.cells (feC x) 24)) w.heap.size (feC x) 24 := Blk.new w _ _
  generalize w.alloc (.cells (feC x) 24) = w1 at *
  obtain ⟨xb, hxb⟩ : ∃ b, w.heap.size = b := ⟨_, rfl⟩
  rw [hxb] at Bx
  rw [hxb]
  have HGB : Hid (w.heap.size ≤ gb) := by have := k1.size; show w.heap.size ≤ gb; omega
  have C : Chg w w2 [] := k1.trans1 k2
  replace Bx := Bx.chg k2 (by simp)
  have G0 : Gv w2 gb gb gNi 8 42 22 24 32 0 (fun _ => 0) (fun _ _ => []) := Gv.noneE Bg _ _
  have G0' : Gv w2 gb gb gNi 2 42 25 3 1 0 (fun _ => 0) (fun _ _ => []) := Gv.noneE Bg _ _
  have hgl : gb ≤ w2.heap.size := Nat.le_of_lt Bg.lt
  clear hxb hgb k1 k2 Bg
  refine (GivenScalars_s gb N gb 0 v f gNi _ _ w2 (by have := HN.out; omega) (by decide) hgl (HL.out.chg0 C).rl G0).mono ?_
  rintro e w3 ⟨r, rfl, o, la, lb, rfl, ho, c1, bo, G1⟩
  replace Bx := Bx.chg c1 (G0.off Bx (by decide) (by decide))
  replace C := C.trans c1 (fun x hx => Or.inr (by have := G0.geE (Nat.le_refl _) x hx; have := HGB.out; omega))
  have hgl3 : gb ≤ w3.heap.size := Nat.le_trans hgl c1.size
  obtain ⟨Ga, hGa⟩ : ∃ G, upV (upV gNi 8 la) (8 + 1) lb = G := ⟨_, rfl⟩
  have HGa : Hid (∀ q, q < 30 → ¬ q = 8 → ¬ q = 9 → Ga q = .slice none 0 0) := fun q _ h1 h2 => by rw [← hGa, upV_other _ _ _ _ h2, upV_other _ _ _ _ h1]; rfl
  rw [hGa] at G1
  have HX : Hid (∀ W, Blk W o (rL 32 (N + 3) (gvR (fR (mkS 987)) (fR f) N)).toArray 24 → Ls W (.slice (some ⟨o, 0, none⟩) N (N + 3)) N f) := fun W h => copy_lsE h mk_ok (by omega) (by have := HN.out; omega) HF.out
  obtain ⟨Lc, hLc⟩ : ∃ Lc, (rL 32 (N + 3) (gvR (fR (mkS 987)) (fR f) N)).toArray = Lc := ⟨_, rfl⟩
  obtain ⟨cv, hcv⟩ : ∃ cv : Value, .slice (some ⟨o, 0, none⟩) N (N + 3) = cv := ⟨_, rfl⟩
  have HX2 : Hid (∀ W, Blk W o Lc 24 → Ls W cv N f) := fun W h => by rw [← hcv]; exact HX.out W (hLc ▸ h)
  rw [hLc] at bo
  rw [hcv]
  clear HX hLc
  clear c1 G0 G0' ho hGa hgl hcv
  go_wp2_with fail
  refine (At_s cv N f (by have := HN.out; omega) d w3 (HX2.out _ bo)).mono ?_
  rintro e w4 ⟨rfl, k⟩
  rw [HY.out, HE.out]
  replace bo := bo.chg k (by simp)
  replace G1 := G1.chg k
  replace Bx := Bx.chg k (by simp)
  have hgl4 : gb ≤ w4.heap.size := Nat.le_trans hgl3 k.size
  replace C := C.trans1 k
  clear k hgl3
  go_wp2_with (first
    | (with_reducible refine alloc_w rfl 24 rfl (.agg z32) zeroSc z32 rfl ?_; intro ab w5 hab Ba k5)
    | (refine store_w Ba rfl 24 _ _ (feC Y) rfl rfl rfl feInfo rfl (feC_one _) ?_; intro w6 Ba6 k6))
  have K6 : Chg w4 w6 [] := k5.new k6 hab
  replace bo := bo.chg K6 (by simp)
  replace G1 := G1.chg K6
  replace Bx := Bx.chg K6 (by simp)
  have hgl6 : gb ≤ w6.heap.size := Nat.le_trans hgl4 K6.size
  replace C := C.trans1 K6
  clear K6 k5 k6 hab Ba hgl4
  refine (At_r v N f (by have := HN.out; omega) d w6 (HL.out.chg0 C)).mono ?_
  rintro e w7 ⟨rfl, k⟩
  rw [HY.out, HE.out]
  replace bo := bo.chg k (by simp)
  replace G1 := G1.chg k
  replace Bx := Bx.chg k (by simp)
  replace Ba6 := Ba6.chg k (by simp)
  have hgl7 : gb ≤ w7.heap.size := Nat.le_trans hgl6 k.size
  replace C := C.trans1 k
  clear k hgl6
  go_wp2_with (first
    | (with_reducible refine alloc_w rfl 24 rfl (.agg z32) zeroSc z32 rfl ?_; intro bb w8 hbb Bb k8)
    | (refine store_w Bb rfl 24 _ _ (feC Y) rfl rfl rfl feInfo rfl (feC_one _) ?_; intro w9 Bb9 k9))
  have K9 : Chg w7 w9 [] := k8.new k9 hbb
  replace bo := bo.chg K9 (by simp)
  replace G1 := G1.chg K9
  replace Bx := Bx.chg K9 (by simp)
  replace Ba6 := Ba6.chg K9 (by simp)
  have hgl9 : gb ≤ w9.heap.size := Nat.le_trans hgl7 K9.size
  replace C := C.trans1 K9
  clear K9 k8 k9 hbb Bb hgl7
  have GI : Gv w9 gb gb Ga 2 42 25 3 1 0 (fun _ => 0) (fun _ _ => []) := by
    refine ⟨G1.gb, [], [], ?_, ?_, ?_, fun j hj => by omega⟩
    · rw [HGa.out 2 (by decide) (by decide) (by decide)]; exact World.ownsRow_nil _ _ _ _
    · rw [HGa.out (2 + 1) (by decide) (by decide) (by decide)]; exact World.ownsRow_nil _ _ _ _
    · rw [HGa.out 2 (by decide) (by decide) (by decide)]; intro x hx; simp [ob, Value.ownBlock] at hx
  refine (GivenInts_s gb M gb 0 u q Ga _ _ w9 (by have := HM.out; omega) (by decide) hgl9 (HIl.out.chg C) GI).mono ?_
  rintro e w10 ⟨r, rfl, o2, la2, lb2, rfl, ho2, c2, bo2, G2⟩
  have gch2 : gch gb Ga 2 = [gb] := by unfold gch; rw [HGa.out 2 (by decide) (by decide) (by decide), HGa.out (2 + 1) (by decide) (by decide) (by decide)]; rfl
  rw [gch2] at c2
  have hTg : ∀ {o C T}, Blk w9 o C T → ¬ T = 42 → ¬ o ∈ [gb] := fun hb hT => by simpa using hb.ne G1.gb hT
  have hxg := hTg Bx (by decide)
  have hag := hTg Ba6 (by decide)
  have hbg := hTg Bb9 (by decide)
  have G1' : Gv w10 gb gb (upV (upV Ga 2 la2) (2 + 1) lb2) 8 42 22 24 32 _ _ _ := G1.beside G2.gb (by rw [upV_other _ _ _ _ (by decide), upV_other _ _ _ _ (by decide)]) (by rw [upV_other _ _ _ _ (by decide), upV_other _ _ _ _ (by decide)]) c2 (fun o C h => hTg h (by decide)) (fun o C h => hTg h (by decide))
  replace C := C.trans c2 (fun x hx => Or.inr (by simp at hx; subst hx; exact HGB.out))
  replace Bx := Bx.chg c2 hxg
  replace Ba6 := Ba6.chg c2 hag
  replace Bb9 := Bb9.chg c2 hbg
  replace bo := bo.chg c2 (hTg bo (by decide))
  have X2 : Il w10 (.slice (some ⟨o2, 0, none⟩) M (M + 3)) M q := copy_ilE bo2 (by omega) (by have := HM.out; omega)
  obtain ⟨Gb, hGb⟩ : ∃ G, upV (upV Ga 2 la2) (2 + 1) lb2 = G := ⟨_, rfl⟩
  have HGb : Hid (∀ q, q < 30 → ¬ q = 2 → ¬ q = 3 → ¬ q = 8 → ¬ q = 9 → Gb q = .slice none 0 0) := fun q h0 h1 h2 h3 h4 => by rw [← hGb, upV_other _ _ _ _ h2, upV_other _ _ _ _ h1]; exact HGa.out q h0 h3 h4
  rw [hGb] at G2 G1'
  obtain ⟨uv, huv⟩ : ∃ uv : Value, .slice (some ⟨o2, 0, none⟩) M (M + 3) = uv := ⟨_, rfl⟩
  rw [huv] at X2
  rw [huv]
  clear c2 G1 GI bo2 ho2 hGb huv hTg hxg hag hbg gch2 HGa hgl9
  go_wp2_with fail
  refine (Split_s2 cv uv N f (by have := HN.out; omega) M q (by have := HM.out; omega) w10 (HX2.out _ bo) X2).mono ?_
  rintro e w11 ⟨r1, rfl, H1, k⟩
  rw [HI.out]
  replace bo := bo.chg k (by simp)
  replace G2 := G2.chg k
  replace G1' := G1'.chg k
  replace Bx := Bx.chg k (by simp)
  replace Ba6 := Ba6.chg k (by simp)
  replace Bb9 := Bb9.chg k (by simp)
  replace C := C.trans1 k
  clear k X2
  go_wp2_with fail
  refine (Split_r2 v u N f (by have := HN.out; omega) M q (by have := HM.out; omega) w11 (HL.out.chg0 C) (HIl.out.chg C)).mono ?_
  rintro e wr ⟨r2, rfl, H2, k⟩
  rw [HI.out]
  replace bo := bo.chg k (by simp)
  replace G2 := G2.chg k
  replace G1' := G1'.chg k
  have Bx := Bx.chg k (by simp)
  have Ba := Ba6.chg k (by simp)
  have Bb := Bb9.chg k (by simp)
  replace H1 := H1.chg k
  replace C := C.trans1 k
  have HEs : Hid (∀ W, Chg wr W [] → Calls Tryz.prog 14 #[cv, fe x] W fun e w' => e = .returned (fe Z) ∧ Chg W w' []) := fun W h => by
    have q := Eval_s cv N f (by have := HN.out; omega) x HRx.out W ((HX2.out _ bo).chg0 h)
    rwa [HZ.out] at q
  have HEr : Hid (∀ W, Chg wr W [] → Calls Tryz.prog 15 #[v, fe x] W fun e w' => e = .returned (fe Z) ∧ Chg W w' []) := fun W h => by
    have q := Eval_r v N f (by have := HN.out; omega) x HRx.out W ((HL.out.chg0 C).chg0 h)
    rwa [HZ.out] at q
  have HSS : Hid (∀ W, Chg wr W [] → Calls Tryz.prog 17 #[r1, r2] W fun e w' => e = .returned (.bool true) ∧ Chg W w' []) := fun W h =>
    SameShares_t r1 r2 (spN q M) q _ (by have := spN_le q M; omega) W (H1.chg h) (H2.chg h)
  have HIT : Hid (∀ W, Chg wr W [] → Calls Tryz.prog 18 #[.pointer (some ⟨gb, 0, none⟩)] W fun e w' => e = .returned (.bool true) ∧ Chg W w' []) := fun W h =>
    Intact_n gb gb (0 + 1) (0 + 1) Gb _ _ _ _ W (G2.chg h) (G1'.chg h) HGb.out (fun j hj => by have := HM.out; split <;> omega) (fun j hj => by have := HN.out; split <;> omega)
      (fun j hj => by obtain rfl : j = 0 := by omega
                      obtain ⟨z, hz⟩ := gv_intE M q
                      exact ⟨z, by simp only [if_pos]; exact hz⟩)
      (fun j hj => by obtain rfl : j = 0 := by omega
                      obtain ⟨z, hz, hb⟩ := gv_numE (n := N) (f := f) HF.out
                      exact ⟨z, by simp only [if_pos]; exact hz, fun i _ => hb i⟩) (by omega) (by omega)
  clear k H1 H2 G2 G1' Ba6 Bb9 bo HL HIl HX2 HGb HF HRx HN HM
  go_wp2_with fail
  refine wp_region_held_drew (S := fun w' => Chg wr w' []) (by kernel_rfl) ((Chg.refl wr _).drew) (fun hHeld => ?_)
  refine take_val (v := ?_) 0 (some 46) rfl (by kernel_rfl) (by kernel_rfl) (by kernel_rfl) (fun _ _ _ h => h) rfl rfl (fun w hSw => ?_) hHeld ?_
  rotate_left
  · (go_simp; try with_reducible rfl)
  try simp only [Act.put, List.setIfInBounds_toArray, List.set_cons_zero, List.set_cons_succ]
  refine take_load 1 (some 47) (feC x) rfl (by kernel_rfl) (by kernel_rfl) (by kernel_rfl) (fun _ _ _ h => h) rfl rfl 24 _ rfl xb rfl 24 _ (fun w h => Bx.chg h (by simp)) Tryz.underlying24 rfl (by first | exact feInfo | kernel_rfl) hHeld ?_
  try simp only [Act.put, List.setIfInBounds_toArray, List.set_cons_zero, List.set_cons_succ]
  refine take_val (v := ?_) 3 (some 49) rfl (by kernel_rfl) (by kernel_rfl) (by kernel_rfl) (fun _ _ _ h => h) rfl rfl (fun w hSw => ?_) hHeld ?_
  rotate_left
  · (go_simp; try with_reducible rfl)
  try simp only [Act.put, List.setIfInBounds_toArray, List.set_cons_zero, List.set_cons_succ]
  refine take_load 4 (some 50) (feC x) rfl (by kernel_rfl) (by kernel_rfl) (by kernel_rfl) (fun _ _ _ h => h) rfl rfl 24 _ rfl xb rfl 24 _ (fun w h => Bx.chg h (by simp)) Tryz.underlying24 rfl (by first | exact feInfo | kernel_rfl) hHeld ?_
  try simp only [Act.put, List.setIfInBounds_toArray, List.set_cons_zero, List.set_cons_succ]
  refine wpAnyH_ready (rs := [2]) (by kernel_rfl) (by simp) ?_
  refine AllReadyH.cons (o := _) rfl (fun K hK => ?_) ?_
  ·
    go_simp
    refine (HEs.out _ hHeld).mono ?_
    rintro e w5 ⟨rfl, k⟩
    go_wp2_with fail
    refine hK.out _ _ (hHeld.trans1 k) (fun hHeld => ?_)
    clear hK K
    try simp only [Act.put, List.setIfInBounds_toArray, List.set_cons_zero, List.set_cons_succ]
    clear k
    refine wpAnyH_ready (rs := [5]) (by kernel_rfl) (by simp) ?_
    refine AllReadyH.cons (o := _) rfl (fun K hK => ?_) ?_
    ·
      go_simp
      refine (HEr.out _ hHeld).mono ?_
      rintro e w5 ⟨rfl, k⟩
      go_wp2_with fail
      refine hK.out _ _ (hHeld.trans1 k) (fun hHeld => ?_)
      clear hK K
      try simp only [Act.put, List.setIfInBounds_toArray, List.set_cons_zero, List.set_cons_succ]
      clear k
      refine take_val (v := (.bool true)) 6 (some 52) rfl (by kernel_rfl) (by kernel_rfl) (by kernel_rfl) (fun _ _ _ h => h) rfl rfl (fun w hSw => ?_) hHeld ?_
      · (go_simp; try with_reducible rfl)
      try simp only [Act.put, List.setIfInBounds_toArray, List.set_cons_zero, List.set_cons_succ]
      refine take_val (v := ?_) 7 (some 53) rfl (by kernel_rfl) (by kernel_rfl) (by kernel_rfl) (fun _ _ _ h => h) rfl rfl (fun w hSw => ?_) hHeld ?_
      rotate_left
      · (go_simp; try with_reducible rfl)
      try simp only [Act.put, List.setIfInBounds_toArray, List.set_cons_zero, List.set_cons_succ]
      refine take_load 8 (some 54) (feC Y) rfl (by kernel_rfl) (by kernel_rfl) (by kernel_rfl) (fun _ _ _ h => h) rfl rfl 24 _ rfl ab rfl 24 _ (fun w h => Ba.chg h (by simp)) Tryz.underlying24 rfl (by first | exact feInfo | kernel_rfl) hHeld ?_
      try simp only [Act.put, List.setIfInBounds_toArray, List.set_cons_zero, List.set_cons_succ]
      refine take_load 9 (some 55) (feC Y) rfl (by kernel_rfl) (by kernel_rfl) (by kernel_rfl) (fun _ _ _ h => h) rfl rfl 24 _ rfl bb rfl 24 _ (fun w h => Bb.chg h (by simp)) Tryz.underlying24 rfl (by first | exact feInfo | kernel_rfl) hHeld ?_
      try simp only [Act.put, List.setIfInBounds_toArray, List.set_cons_zero, List.set_cons_succ]
      refine take_val (v := (.bool true)) 10 (some 56) rfl (by kernel_rfl) (by kernel_rfl) (by kernel_rfl) (fun _ _ _ h => h) rfl rfl (fun w hSw => ?_) hHeld ?_
      · (go_simp; try with_reducible rfl)
      try simp only [Act.put, List.setIfInBounds_toArray, List.set_cons_zero, List.set_cons_succ]
      refine take_val (v := ?_) 11 (some 57) rfl (by kernel_rfl) (by kernel_rfl) (by kernel_rfl) (fun _ _ _ h => h) rfl rfl (fun w hSw => ?_) hHeld ?_
      rotate_left
      · (go_simp; try with_reducible rfl)
      try simp only [Act.put, List.setIfInBounds_toArray, List.set_cons_zero, List.set_cons_succ]
      refine take_val (v := ?_) 12 (some 58) rfl (by kernel_rfl) (by kernel_rfl) (by kernel_rfl) (fun _ _ _ h => h) rfl rfl (fun w hSw => ?_) hHeld ?_
      rotate_left
      · (go_simp; try with_reducible rfl)
      try simp only [Act.put, List.setIfInBounds_toArray, List.set_cons_zero, List.set_cons_succ]
      refine take_val (v := ?_) 13 (some 59) rfl (by kernel_rfl) (by kernel_rfl) (by kernel_rfl) (fun _ _ _ h => h) rfl rfl (fun w hSw => ?_) hHeld ?_
      rotate_left
      · (go_simp; try with_reducible rfl)
      try simp only [Act.put, List.setIfInBounds_toArray, List.set_cons_zero, List.set_cons_succ]
      refine take_val (v := ?_) 15 (some 61) rfl (by kernel_rfl) (by kernel_rfl) (by kernel_rfl) (fun _ _ _ h => h) rfl rfl (fun w hSw => ?_) hHeld ?_
      rotate_left
      · (go_simp; try with_reducible rfl)
      try simp only [Act.put, List.setIfInBounds_toArray, List.set_cons_zero, List.set_cons_succ]
      refine wpAnyH_ready (rs := [14]) (by kernel_rfl) (by simp) ?_
      refine AllReadyH.cons (o := _) rfl (fun K hK => ?_) ?_
      ·
        go_simp
        refine (numS E HWE.out _).mono ?_
        rintro e w5 ⟨rfl, rfl⟩
        go_wp2_with fail
        refine hK.out _ _ (hHeld) (fun hHeld => ?_)
        clear hK K
        try simp only [Act.put, List.setIfInBounds_toArray, List.set_cons_zero, List.set_cons_succ]
        refine take_val (v := (.bool true)) 16 (some 62) rfl (by kernel_rfl) (by kernel_rfl) (by kernel_rfl) (fun _ _ _ h => h) rfl rfl (fun w hSw => ?_) hHeld ?_
        · (go_simp; try with_reducible rfl)
        try simp only [Act.put, List.setIfInBounds_toArray, List.set_cons_zero, List.set_cons_succ]
        refine take_val (v := ?_) 17 (some 63) rfl (by kernel_rfl) (by kernel_rfl) (by kernel_rfl) (fun _ _ _ h => h) rfl rfl (fun w hSw => ?_) hHeld ?_
        rotate_left
        · (go_simp; try with_reducible rfl)
        try simp only [Act.put, List.setIfInBounds_toArray, List.set_cons_zero, List.set_cons_succ]
        refine take_val (v := ?_) 18 (some 64) rfl (by kernel_rfl) (by kernel_rfl) (by kernel_rfl) (fun _ _ _ h => h) rfl rfl (fun w hSw => ?_) hHeld ?_
        rotate_left
        · (go_simp; try with_reducible rfl)
        try simp only [Act.put, List.setIfInBounds_toArray, List.set_cons_zero, List.set_cons_succ]
        refine take_val (v := ?_) 19 (some 65) rfl (by kernel_rfl) (by kernel_rfl) (by kernel_rfl) (fun _ _ _ h => h) rfl rfl (fun w hSw => ?_) hHeld ?_
        rotate_left
        · (go_simp; try with_reducible rfl)
        try simp only [Act.put, List.setIfInBounds_toArray, List.set_cons_zero, List.set_cons_succ]
        refine take_val (v := ?_) 20 (some 66) rfl (by kernel_rfl) (by kernel_rfl) (by kernel_rfl) (fun _ _ _ h => h) rfl rfl (fun w hSw => ?_) hHeld ?_
        rotate_left
        · (go_simp; try with_reducible rfl)
        try simp only [Act.put, List.setIfInBounds_toArray, List.set_cons_zero, List.set_cons_succ]
        refine wpAnyH_ready (rs := [21]) (by kernel_rfl) (by simp) ?_
        refine AllReadyH.cons (o := _) rfl (fun K hK => ?_) ?_
        ·
          go_simp
          refine (HSS.out _ hHeld).mono ?_
          rintro e w5 ⟨rfl, k⟩
          go_wp2_with fail
          refine hK.out _ _ (hHeld.trans1 k) (fun hHeld => ?_)
          clear hK K
          try simp only [Act.put, List.setIfInBounds_toArray, List.set_cons_zero, List.set_cons_succ]
          clear k
          refine take_val (v := ?_) 22 (some 68) rfl (by kernel_rfl) (by kernel_rfl) (by kernel_rfl) (fun _ _ _ h => h) rfl rfl (fun w hSw => ?_) hHeld ?_
          rotate_left
          · (go_simp; try with_reducible rfl)
          try simp only [Act.put, List.setIfInBounds_toArray, List.set_cons_zero, List.set_cons_succ]
          refine take_val (v := ?_) 23 (some 69) rfl (by kernel_rfl) (by kernel_rfl) (by kernel_rfl) (fun _ _ _ h => h) rfl rfl (fun w hSw => ?_) hHeld ?_
          rotate_left
          · (go_simp; try with_reducible rfl)
          try simp only [Act.put, List.setIfInBounds_toArray, List.set_cons_zero, List.set_cons_succ]
          refine take_val (v := ?_) 24 (some 70) rfl (by kernel_rfl) (by kernel_rfl) (by kernel_rfl) (fun _ _ _ h => h) rfl rfl (fun w hSw => ?_) hHeld ?_
          rotate_left
          · (go_simp; try with_reducible rfl)
          try simp only [Act.put, List.setIfInBounds_toArray, List.set_cons_zero, List.set_cons_succ]
          refine take_val (v := ?_) 26 (some 72) rfl (by kernel_rfl) (by kernel_rfl) (by kernel_rfl) (fun _ _ _ h => h) rfl rfl (fun w hSw => ?_) hHeld ?_
          rotate_left
          · (go_simp; try with_reducible rfl)
          try simp only [Act.put, List.setIfInBounds_toArray, List.set_cons_zero, List.set_cons_succ]
          refine wpAnyH_ready (rs := [25]) (by kernel_rfl) (by simp) ?_
          refine AllReadyH.cons (o := _) rfl (fun K hK => ?_) ?_
          ·
            go_simp
            refine (numS I HWI.out _).mono ?_
            rintro e w5 ⟨rfl, rfl⟩
            go_wp2_with fail
            refine hK.out _ _ (hHeld) (fun hHeld => ?_)
            clear hK K
            try simp only [Act.put, List.setIfInBounds_toArray, List.set_cons_zero, List.set_cons_succ]
            refine take_val (v := (.bool true)) 27 (some 73) rfl (by kernel_rfl) (by kernel_rfl) (by kernel_rfl) (fun _ _ _ h => h) rfl rfl (fun w hSw => ?_) hHeld ?_
            · (go_simp; try with_reducible rfl)
            try simp only [Act.put, List.setIfInBounds_toArray, List.set_cons_zero, List.set_cons_succ]
            refine take_val (v := ?_) 28 (some 74) rfl (by kernel_rfl) (by kernel_rfl) (by kernel_rfl) (fun _ _ _ h => h) rfl rfl (fun w hSw => ?_) hHeld ?_
            rotate_left
            · (go_simp; try with_reducible rfl)
            try simp only [Act.put, List.setIfInBounds_toArray, List.set_cons_zero, List.set_cons_succ]
            refine take_val (v := ?_) 29 (some 75) rfl (by kernel_rfl) (by kernel_rfl) (by kernel_rfl) (fun _ _ _ h => h) rfl rfl (fun w hSw => ?_) hHeld ?_
            rotate_left
            · (go_simp; try with_reducible rfl)
            try simp only [Act.put, List.setIfInBounds_toArray, List.set_cons_zero, List.set_cons_succ]
            refine wpAnyH_ready (rs := [30]) (by kernel_rfl) (by simp) ?_
            refine AllReadyH.cons (o := _) rfl (fun K hK => ?_) ?_
            ·
              go_simp
              refine (HIT.out _ hHeld).mono ?_
              rintro e w5 ⟨rfl, k⟩
              go_wp2_with fail
              refine hK.out _ _ (hHeld.trans1 k) (fun hHeld => ?_)
              clear hK K
              try simp only [Act.put, List.setIfInBounds_toArray, List.set_cons_zero, List.set_cons_succ]
              clear k
              refine take_val (v := ?_) 31 (some 77) rfl (by kernel_rfl) (by kernel_rfl) (by kernel_rfl) (fun _ _ _ h => h) rfl rfl (fun w hSw => ?_) hHeld ?_
              rotate_left
              · (go_simp; try with_reducible rfl)
              try simp only [Act.put, List.setIfInBounds_toArray, List.set_cons_zero, List.set_cons_succ]
              refine take_val (v := ?_) 32 (some 78) rfl (by kernel_rfl) (by kernel_rfl) (by kernel_rfl) (fun _ _ _ h => h) rfl rfl (fun w hSw => ?_) hHeld ?_
              rotate_left
              · (go_simp; try with_reducible rfl)
              try simp only [Act.put, List.setIfInBounds_toArray, List.set_cons_zero, List.set_cons_succ]
              refine wpAnyH_ready (rs := [33]) (by kernel_rfl) (by simp) ?_
              refine AllReadyH.cons (o := _) rfl (fun K hK => ?_) ?_
              ·
                go_simp
                refine (alive_s _).mono ?_
                rintro e w5 ⟨rfl, k⟩
                go_wp2_with fail
                refine hK.out _ _ (hHeld.trans1 k) (fun hHeld => ?_)
                clear hK K
                try simp only [Act.put, List.setIfInBounds_toArray, List.set_cons_zero, List.set_cons_succ]
                clear k
                refine take_val (v := ?_) 34 (some 80) rfl (by kernel_rfl) (by kernel_rfl) (by kernel_rfl) (fun _ _ _ h => h) rfl rfl (fun w hSw => ?_) hHeld ?_
                rotate_left
                · (go_simp; try with_reducible rfl)
                try simp only [Act.put, List.setIfInBounds_toArray, List.set_cons_zero, List.set_cons_succ]
                refine take_val (v := ?_) 35 (some 8) rfl (by kernel_rfl) (by kernel_rfl) (by kernel_rfl) (fun _ _ _ h => h) rfl rfl (fun w hSw => ?_) hHeld ?_
                rotate_left
                · (go_simp; try with_reducible rfl)
                try simp only [Act.put, List.setIfInBounds_toArray, List.set_cons_zero, List.set_cons_succ]
                refine wpAnyH_done (by kernel_rfl) ?_ _
                replace C := C.trans1 hHeld
                clear hHeld
                go_wp2_with fail
                go_ret
                exact ⟨rfl, C⟩
              exact AllReadyH.nil
            exact AllReadyH.nil
          exact AllReadyH.nil
        exact AllReadyH.nil
      exact AllReadyH.nil
    exact AllReadyH.nil
  exact AllReadyH.nil
end Go.Proofs.YtmoahgeclmediaaGreat
