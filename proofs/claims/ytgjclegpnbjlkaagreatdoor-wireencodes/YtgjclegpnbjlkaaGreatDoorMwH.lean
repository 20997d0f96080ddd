/- Joined: WOp, WLd. -/
import Derived.Test.YtgjclegpnbjlkaaGreatDoorRows
import Derived.Test.YtgjclegpnbjlkaaGreatDoorMwK
import Derived.Test.YtgjclegpnbjlkaaGreatDoorMwI
import Derived.ProofKit
import Derived.LaidMore
import Derived.OpenShut
import Derived.Stop.Joined
import Derived.Stop.LaidErr
import Derived.Lib.LaidTab
import Derived.Deep.Slices
import Derived.SizedLaws
import Derived.Below
import Derived.JoinedCond
import Derived.Test.YtgjclegpnbjlkaaGreatDoorW30
/- What comes in: the tables as the row lists them, a []byte, a list of commitments, a message. -/
set_option linter.constructorNameAsVariable false
set_option linter.unusedVariables false
set_option linter.unusedSimpArgs false
set_option linter.unnecessarySimpa false
namespace Go.Proofs.YtgjclegpnbjlkaaGreatDoor
open Go.ChangeShapes Go.WideShapes Go.ChangeAt Go.RowKit Go.Deep

theorem own : ownKnob Tryz.prog.godebug = none := by kernel_rfl
theorem laidOut : laidOutB Tryz.prog = true := by kernel_rfl
theorem u8Cells : Tryz.prog.cellsOf 5 = 1 := by kernel_rfl
theorem intC1 : Tryz.prog.cellsOf 3 = 1 := by kernel_rfl
theorem kindC1 : Tryz.prog.cellsOf 22 = 1 := by kernel_rfl
theorem errC1 : Tryz.prog.cellsOf 33 = 1 := by kernel_rfl
theorem bytesC1 : Tryz.prog.cellsOf 29 = 1 := by kernel_rfl
theorem cmtsC1 : Tryz.prog.cellsOf 28 = 1 := by kernel_rfl
theorem elemCells : Tryz.prog.cellsOf 25 = 32 := by kernel_rfl
theorem hashCells : Tryz.prog.cellsOf 24 = 32 := by kernel_rfl
theorem scCells : Tryz.prog.cellsOf 30 = 32 := by kernel_rfl
theorem sigCells : Tryz.prog.cellsOf 32 = 64 := by kernel_rfl
theorem cmtCells : Tryz.prog.cellsOf 27 = 65 := by kernel_rfl
theorem msgCells : Tryz.prog.cellsOf 35 = 231 := by kernel_rfl
theorem u8_wf {n : Int} (h : (Lit.int .u8 n).wf = true) : 0 ≤ n ∧ n < 256 := by
  have := bounds_u8 h
  omega
theorem i64_wf {n : Int} (h : (Lit.int .i64 n).wf = true) : -9223372036854775808 ≤ n ∧ n < 9223372036854775808 := by
  have := bounds_i64 h
  omega
theorem shape_lt {w : World} {b : Nat} {x : TypeId × Nat} (h : w.shape? b = some x) : b < w.heap.size := by
  unfold World.shape? at h
  by_cases hb : b < w.heap.size
  · exact hb
  · rw [Array.getElem?_eq_none (by omega)] at h
    simp at h
theorem take_at {cs : List Value} {i : Nat} {v : Value} (e1 : ((cs.drop i).take 1) = [v]) : cs[i]? = some v := by
  have e2 := congrArg (fun l => l[0]?) e1
  simp only [List.getElem?_take, List.getElem?_drop] at e2
  simpa using e2
theorem one_at (cs : List Value) (i : Nat) (h : i < cs.length) : (cs.drop i).take 1 = [cs[i]] := by
  rw [List.drop_eq_getElem_cons h]
  rfl
theorem choose_ltW {n : Nat} {P : Nat → Nat → Prop} (h : ∀ i, i < n → ∃ b, P i b) : ∃ f : Nat → Nat, ∀ i, i < n → P i (f i) :=
  ⟨fun i => if hi : i < n then (h i hi).choose else 0, fun i hi => by simp only [hi, dif_pos]; exact (h i hi).choose_spec⟩
/-- An array's bytes. -/
theorem arr_cells {H : Type} {enc : TypeId × Value → H} {w : World} {base fuel : Nat} {spare : Nat → Bool} {held : Bool} {t : TypeId} {n : Nat} {cs : List Value} {x : DataW H × List MemPlace} (hu : Tryz.prog.underlying t = some (.array n 5))
    (hf : DataW.trod enc Tryz.prog w base spare held fuel t cs = some x) : ∃ f : Nat → Nat, ∀ i, i < n → f i < 256 ∧ cs[i]? = some (.int .u8 (f i)) := by
  obtain ⟨xs, m, _, _, _, hlen, hall⟩ := DataW.trod_array hu hf
  have hb : ∀ i, i < n → ∃ b : Nat, b < 256 ∧ cs[i]? = some (.int .u8 (b : Int)) := fun i hi => by
    have h1 := hall i hi
    rw [List.getElem?_eq_getElem (by omega), u8Cells, Nat.mul_one] at h1
    obtain ⟨z, e1, _, wf⟩ := DataW.trod_int Tryz.underlying5 h1
    have u := u8_wf wf
    obtain ⟨b, rfl⟩ := Int.eq_ofNat_of_zero_le u.1
    exact ⟨b, by omega, take_at e1⟩
  exact choose_ltW hb
theorem arr_at {cs : List Value} {k n : Nat} {f : Nat → Nat} (h : ∀ i, i < n → f i < 256 ∧ ((cs.drop k).take n)[i]? = some (.int .u8 (f i))) (i : Nat) (hi : i < n) : cs[k + i]? = some (.int .u8 (f i)) := by
  have := (h i hi).2
  rw [List.getElem?_take_of_lt hi, List.getElem?_drop] at this
  exact this
/-- 65 cells that read as a commitment. -/
theorem open_cmt {H : Type} {enc : TypeId × Value → H} {w : World} {base fuel : Nat} {spare : Nat → Bool} {held : Bool} {cs : List Value} {x : DataW H × List MemPlace}
    (hf : DataW.trod enc Tryz.prog w base spare held fuel 27 cs = some x) : ∃ (d : Int) (h b : Nat → Nat), (∀ i, i < 32 → h i < 256 ∧ b i < 256) ∧ cs = cmL d h b := by
  obtain ⟨xs, m, _, hx, hl, hlen, hall⟩ := DataW.trod_struct Tryz.underlying27 hf
  rw [cmtCells] at hl
  match xs, hlen with
  | [y0, y1, y2], _ =>
    have a0 : DataW.trod enc Tryz.prog w base spare held m 3 ((cs.drop 0).take (Tryz.prog.cellsOf 3)) = some y0 := hall 0 _ rfl
    rw [intC1] at a0
    have a1 : DataW.trod enc Tryz.prog w base spare held m 25 ((cs.drop 1).take (Tryz.prog.cellsOf 25)) = some y1 := hall 1 _ rfl
    rw [elemCells] at a1
    have a2 : DataW.trod enc Tryz.prog w base spare held m 25 ((cs.drop 33).take (Tryz.prog.cellsOf 25)) = some y2 := hall 2 _ rfl
    rw [elemCells] at a2
    obtain ⟨z0, e0, _, wf0⟩ := DataW.trod_int Tryz.underlying3 a0
    obtain ⟨h, hh⟩ := arr_cells Tryz.underlying25 a1
    obtain ⟨b, hb⟩ := arr_cells Tryz.underlying25 a2
    have c0 := take_at e0
    refine ⟨z0, h, b, fun i hi => ⟨(hh i hi).1, (hb i hi).1⟩, List.ext_getElem? fun i => ?_⟩
    by_cases h0 : i = 0
    · subst h0; rw [cmL_0]; exact c0
    by_cases h1 : i < 33
    · obtain ⟨j, rfl⟩ : ∃ j, i = 1 + j := ⟨i - 1, by omega⟩
      rw [cmL_h _ _ _ _ (by omega)]; exact arr_at hh j (by omega)
    by_cases h2 : i < 65
    · obtain ⟨j, rfl⟩ : ∃ j, i = 33 + j := ⟨i - 33, by omega⟩
      rw [cmL_b _ _ _ _ (by omega)]; exact arr_at hb j (by omega)
    rw [List.getElem?_eq_none (by omega), List.getElem?_eq_none (by rw [cmL_len]; omega)]
set_option maxRecDepth 100000 in
theorem open_bytes {H : Type} {enc : TypeId × Value → H} {w : World} {r : Reach} {b0 base : Nat} {spare : Nat → Bool} {held : Bool} {v : Value} {d : DataW H} {p : List MemPlace}
    (hv : Value.okWide Tryz.prog w r b0 29 v) (h : DataW.Trod enc Tryz.prog w base spare held 29 v d p) :
    ∃ n f, Sl w v n f ∧ (n = 0 ∨ ∃ elems spare, d = .slice elems spare ∧ elems.length = n) := by
  obtain ⟨fuel, hf⟩ := h
  obtain ⟨a0, l0, c0, rfl⟩ := okWide_slice Tryz.underlying29 hv
  rcases open_slice1 Tryz.underlying29 u8Cells hf with ⟨h0, _⟩ | ⟨a, len, cap, m, n, V, D, Pl, h0, _, hl, hc, hm, hd, hx⟩
  · refine ⟨0, fun _ => 0, Or.inl ⟨rfl, ?_⟩, Or.inl rfl⟩
    simpa [Value.cells] using h0
  · have h0' : Value.slice a0 l0 c0 = .slice (some a) len cap := by simpa [Value.cells] using h0
    rw [h0'] at hv ⊢
    simp only [Value.okWide, Tryz.underlying29, Cell.okWide, Cell.ok, World.has] at hv
    obtain ⟨_, _, _, hs, row, cells, hsh, _⟩ := hv
    have hlt := shape_lt hsh
    obtain ⟨g, o, spot⟩ := a
    simp only at hs
    subst hs
    have hml : len ≤ m := by rw [hm]; split <;> omega
    refine ⟨len, fun i => (intOf (V i)).toNat, Or.inr ⟨g, o, cap, rfl, hl, by simpa [maxLen] using hc, hlt, fun i hi => ?_, fun i hi => ?_⟩, Or.inr ⟨_, _, (Prod.mk.inj hd).1, by simp⟩⟩
    · obtain ⟨_, h2⟩ := hx i (by omega)
      obtain ⟨k, e1, _, wf⟩ := DataW.trod_int Tryz.underlying5 h2
      have u := u8_wf wf
      have e2 : V i = .int .u8 k := by simpa using e1
      rw [e2]
      simp only [intOf]
      omega
    · obtain ⟨h1, h2⟩ := hx i (by omega)
      obtain ⟨k, e1, _, wf⟩ := DataW.trod_int Tryz.underlying5 h2
      have u := u8_wf wf
      have e2 : V i = .int .u8 k := by simpa using e1
      have ha : (Addr.add ⟨g, o, none⟩ i) = ⟨g, o + i, none⟩ := Addr.add_mid g o i
      rw [ha, e2] at h1
      rw [h1, e2]
      simp only [intOf]
      rw [Int.toNat_of_nonneg u.1]
set_option maxRecDepth 100000 in
theorem open_cmts {H : Type} {enc : TypeId × Value → H} {w : World} {r : Reach} {b0 base : Nat} {spare : Nat → Bool} {held : Bool} {v : Value} {d : DataW H} {p : List MemPlace}
    (hv : Value.okWide Tryz.prog w r b0 28 v) (h : DataW.Trod enc Tryz.prog w base spare held 28 v d p) :
    ∃ N X h b, Cl w v N X h b ∧ (N = 0 ∨ ∃ elems spare, d = .slice elems spare ∧ elems.length = N) := by
  obtain ⟨fuel, hf⟩ := h
  obtain ⟨a0, l0, c0, rfl⟩ := okWide_slice Tryz.underlying28 hv
  rcases open_slice Tryz.underlying28 hf with ⟨h0, _⟩ | ⟨a, len, cap, m, n, D, Pl', h0, _, hl, hc, hm, hd, hx⟩
  · refine ⟨0, fun _ => 0, fun _ _ => 0, fun _ _ => 0, ⟨⟨cF_ok 0 _ _ _, Or.inl ⟨rfl, ?_⟩⟩, fun i hi => by omega⟩, Or.inl rfl⟩
    simpa [Value.cells] using h0
  · have h0' : Value.slice a0 l0 c0 = .slice (some a) len cap := by simpa [Value.cells] using h0
    rw [h0'] at hv ⊢
    simp only [Value.okWide, Tryz.underlying28, Cell.okWide, Cell.ok, World.has] at hv
    obtain ⟨_, _, _, hs, row, cells, hsh, _⟩ := hv
    have hlt := shape_lt hsh
    obtain ⟨g, o, spot⟩ := a
    simp only at hs
    subst hs
    have hml : len ≤ m := by rw [hm]; split <;> omega
    have hex : ∀ i, i < len → ∃ z : Int × (Nat → Nat) × (Nat → Nat), (∀ j, j < 32 → z.2.1 j < 256 ∧ z.2.2 j < 256) ∧ w.rangeAt g (o + i * 65) (cmL z.1 z.2.1 z.2.2) := fun i hi => by
      obtain ⟨cs', h1, h2⟩ := hx i (by omega)
      rw [cmtCells] at h1
      obtain ⟨_, hlen', hcell⟩ := World.cells?_some h1
      obtain ⟨a, k, b, hk, rfl⟩ := open_cmt h2
      refine ⟨(a, k, b), hk, fun j u hu => ?_⟩
      have hj : j < 65 := by have := (List.getElem?_eq_some_iff.1 hu).1; rwa [hlen'] at this
      have hc2 := hcell j hj
      rw [Addr.add_mid g o (i * 65), Addr.add_mid g (o + i * 65) j] at hc2
      rw [hc2]
      exact hu
    refine ⟨len, fun i => if hi : i < len then (hex i hi).choose.1 else 0, fun i => if hi : i < len then (hex i hi).choose.2.1 else fun _ => 0, fun i => if hi : i < len then (hex i hi).choose.2.2 else fun _ => 0, ⟨⟨cF_ok _ _ _ _, Or.inr ⟨g, o, cap, rfl, hl, by simpa [maxLen] using hc, hlt, fun i hi => ?_⟩⟩, fun i hi => ?_⟩, Or.inr ⟨_, _, (Prod.mk.inj hd).1, by simp⟩⟩
    · show w.rangeAt g (o + i * 65) (cmL _ _ _)
      simp only [hi, dif_pos]
      exact (hex i hi).choose_spec.2
    · simp only [hi, dif_pos]
      exact (hex i hi).choose_spec.1
theorem msTs : ∃ ts, Tryz.prog.cellTypes Tryz.prog.depth 35 = some ts ∧ ts.length = 231 ∧ ts[100]? = some 28 ∧ ts[101]? = some 29 := by
  have h : (Tryz.prog.cellTypes Tryz.prog.depth 35).map (fun ts => (ts.length, ts[100]?, ts[101]?)) = some (231, some 28, some 29) := by kernel_rfl
  obtain ⟨ts, h1, h2⟩ := Option.map_eq_some_iff.1 h
  simp only [Prod.mk.injEq] at h2
  exact ⟨ts, h1, h2⟩
set_option maxRecDepth 100000 in
theorem open_msgz {H : Type} {enc : TypeId × Value → H} {w : World} {r : Reach} {b0 base : Nat} {spare : Nat → Bool} {held : Bool} {v : Value} {dd : DataW H} {p : List MemPlace}
    (hv : Value.okWide Tryz.prog w r b0 35 v) (hT : DataW.Trod enc Tryz.prog w base spare held 35 v dd p) :
    ∃ (m : Ms) (N : Nat) (d : Nat → Int) (h b : Nat → Nat → Nat) (M : Nat) (ft : Nat → Nat), v = .agg (msC m) ∧ MsB m ∧ Cl w m.list N d h b ∧ Sl w m.text M ft ∧
      ∃ parts, dd = .agg parts ∧ (N = 0 ∨ ∃ elems spare, parts[5]? = some (.slice elems spare) ∧ elems.length = N) ∧ (M = 0 ∨ ∃ elems spare, parts[6]? = some (.slice elems spare) ∧ elems.length = M) := by
  simp only [Value.okWide, Tryz.underlying35] at hv
  obtain ⟨C, rfl, hsz, hrow⟩ := hv
  rw [msgCells] at hsz
  obtain ⟨ts, ht, hn, t100, t101⟩ := msTs
  obtain ⟨ts', ht', _, hcell⟩ := hrow
  obtain rfl : ts' = ts := Option.some.inj (ht'.symm.trans ht)
  obtain ⟨fuel, hf⟩ := hT
  obtain ⟨xs, m, _, hx, _, hlen, hall⟩ := DataW.trod_struct Tryz.underlying35 hf
  obtain ⟨cs, hcs⟩ : ∃ cs, (Value.agg C).cells.toList = cs := ⟨_, rfl⟩
  have hC : C.toList = cs := hcs
  rw [hcs] at hall
  have hl : cs.length = 231 := by rw [← hC]; simpa using hsz
  have hat : ∀ i (hi : i < cs.length), C[i]? = some cs[i] := fun i hi => by
    rw [← Array.getElem?_toList, hC, List.getElem?_eq_getElem hi]
  match xs, hlen with
  | [y0, y1, y2, y3, y4, y5, y6, y7, y8, y9, y10], _ =>
    have a0 : DataW.trod enc Tryz.prog w base spare held m 22 ((cs.drop 0).take (Tryz.prog.cellsOf 22)) = some y0 := hall 0 _ rfl
    have a1 : DataW.trod enc Tryz.prog w base spare held m 24 ((cs.drop 1).take (Tryz.prog.cellsOf 24)) = some y1 := hall 1 _ rfl
    have a2 : DataW.trod enc Tryz.prog w base spare held m 3 ((cs.drop 33).take (Tryz.prog.cellsOf 3)) = some y2 := hall 2 _ rfl
    have a3 : DataW.trod enc Tryz.prog w base spare held m 3 ((cs.drop 34).take (Tryz.prog.cellsOf 3)) = some y3 := hall 3 _ rfl
    have a4 : DataW.trod enc Tryz.prog w base spare held m 27 ((cs.drop 35).take (Tryz.prog.cellsOf 27)) = some y4 := hall 4 _ rfl
    have a5 : DataW.trod enc Tryz.prog w base spare held m 28 ((cs.drop 100).take (Tryz.prog.cellsOf 28)) = some y5 := hall 5 _ rfl
    have a6 : DataW.trod enc Tryz.prog w base spare held m 29 ((cs.drop 101).take (Tryz.prog.cellsOf 29)) = some y6 := hall 6 _ rfl
    have a7 : DataW.trod enc Tryz.prog w base spare held m 24 ((cs.drop 102).take (Tryz.prog.cellsOf 24)) = some y7 := hall 7 _ rfl
    have a8 : DataW.trod enc Tryz.prog w base spare held m 30 ((cs.drop 134).take (Tryz.prog.cellsOf 30)) = some y8 := hall 8 _ rfl
    have a9 : DataW.trod enc Tryz.prog w base spare held m 32 ((cs.drop 166).take (Tryz.prog.cellsOf 32)) = some y9 := hall 9 _ rfl
    have a10 : DataW.trod enc Tryz.prog w base spare held m 33 ((cs.drop 230).take (Tryz.prog.cellsOf 33)) = some y10 := hall 10 _ rfl
    rw [kindC1] at a0
    rw [hashCells] at a1 a7
    rw [intC1] at a2 a3
    rw [cmtCells] at a4
    rw [cmtsC1, one_at cs _ (by omega)] at a5
    rw [bytesC1, one_at cs _ (by omega)] at a6
    rw [scCells] at a8
    rw [sigCells] at a9
    rw [errC1] at a10
    obtain ⟨z0, e0, _, _⟩ := DataW.trod_int Tryz.underlying22 a0
    obtain ⟨f1, k1⟩ := arr_cells Tryz.underlying24 a1
    obtain ⟨z2, e2, _, _⟩ := DataW.trod_int Tryz.underlying3 a2
    obtain ⟨z3, e3, _, _⟩ := DataW.trod_int Tryz.underlying3 a3
    obtain ⟨z4, h4, b4, k4, e4⟩ := open_cmt a4
    obtain ⟨f7, k7⟩ := arr_cells Tryz.underlying24 a7
    obtain ⟨f8, k8⟩ := arr_cells Tryz.underlying30 a8
    obtain ⟨f9, k9⟩ := arr_cells Tryz.underlying32 a9
    obtain ⟨z10, e10, _, _⟩ := DataW.trod_int Tryz.underlying33 a10
    have c0 := take_at e0
    have c2 := take_at e2
    have c3 := take_at e3
    have c10 := take_at e10
    have o5 : Value.okWide Tryz.prog w r b0 28 cs[100] := by
      obtain ⟨u, hu1, hu2⟩ := hcell 100 _ (hat 100 (by omega))
      rw [hn] at hu1
      obtain rfl : u = 28 := Option.some.inj (hu1.symm.trans t100)
      simp only [Value.okWide, Tryz.underlying28]
      exact hu2
    have o6 : Value.okWide Tryz.prog w r b0 29 cs[101] := by
      obtain ⟨u, hu1, hu2⟩ := hcell 101 _ (hat 101 (by omega))
      rw [hn] at hu1
      obtain rfl : u = 29 := Option.some.inj (hu1.symm.trans t101)
      simp only [Value.okWide, Tryz.underlying29]
      exact hu2
    obtain ⟨N, X, hh, bb, hCl, z5⟩ := open_cmts (d := y5.1) (p := y5.2) o5 ⟨m, by
      obtain ⟨q1, q2, q3, q4⟩ := okWide_slice Tryz.underlying28 o5
      rw [q4] at a5 ⊢
      exact a5⟩
    obtain ⟨M, ft, hSl, z6⟩ := open_bytes (d := y6.1) (p := y6.2) o6 ⟨m, by
      obtain ⟨q1, q2, q3, q4⟩ := okWide_slice Tryz.underlying29 o6
      rw [q4] at a6 ⊢
      exact a6⟩
    refine ⟨{ kind := z0, ses := f1, fr := z2, to := z3, id := z4, hid := h4, bnd := b4, list := cs[100], text := cs[101], bind := f7, share := f8, sig := f9, code := z10 }, N, X, hh, bb, M, ft, congrArg Value.agg ?_,
      ⟨fun i hi => (k1 i hi).1, fun i hi => (k4 i hi).1, fun i hi => (k4 i hi).2, fun i hi => (k7 i hi).1, fun i hi => (k8 i hi).1, fun i hi => (k9 i hi).1⟩, hCl, hSl, _, (Prod.mk.inj hx).1, z5.imp id (fun ⟨e, s, h1, h2⟩ => ⟨e, s, congrArg some h1, h2⟩), z6.imp id (fun ⟨e, s, h1, h2⟩ => ⟨e, s, congrArg some h1, h2⟩)⟩
    obtain ⟨mm, hmm⟩ : ∃ mm : Ms, mm = { kind := z0, ses := f1, fr := z2, to := z3, id := z4, hid := h4, bnd := b4, list := cs[100], text := cs[101], bind := f7, share := f8, sig := f9, code := z10 } := ⟨_, rfl⟩
    rw [← hmm]
    have g0 : mm.kind = z0 := by rw [hmm]
    have g1 : mm.ses = f1 := by rw [hmm]
    have g2 : mm.fr = z2 := by rw [hmm]
    have g3 : mm.to = z3 := by rw [hmm]
    have g4 : mm.id = z4 := by rw [hmm]
    have g4h : mm.hid = h4 := by rw [hmm]
    have g4b : mm.bnd = b4 := by rw [hmm]
    have g5 : mm.list = cs[100] := by rw [hmm]
    have g6 : mm.text = cs[101] := by rw [hmm]
    have g7 : mm.bind = f7 := by rw [hmm]
    have g8 : mm.share = f8 := by rw [hmm]
    have g9 : mm.sig = f9 := by rw [hmm]
    have g10 : mm.code = z10 := by rw [hmm]
    clear hmm
    have he : cs = msL mm := List.ext_getElem? fun i => by
      by_cases i0 : i = 0
      · subst i0; rw [ms_kind, g0]; exact c0
      by_cases i1 : i < 33
      · obtain ⟨j, rfl⟩ : ∃ j, i = 1 + j := ⟨i - 1, by omega⟩
        rw [msL_ses mm j (by omega), g1]; exact arr_at k1 j (by omega)
      by_cases i2 : i = 33
      · subst i2; rw [ms_fr, g2]; exact c2
      by_cases i3 : i = 34
      · subst i3; rw [ms_to, g3]; exact c3
      by_cases i4 : i < 100
      · obtain ⟨j, rfl⟩ : ∃ j, i = 35 + j := ⟨i - 35, by omega⟩
        rw [msL_pair mm j (by omega), g4, g4h, g4b, ← e4, List.getElem?_take_of_lt (by omega), List.getElem?_drop]
      by_cases i5 : i = 100
      · subst i5; rw [ms_list, g5, List.getElem?_eq_getElem (by omega)]
      by_cases i6 : i = 101
      · subst i6; rw [ms_text, g6, List.getElem?_eq_getElem (by omega)]
      by_cases i7 : i < 134
      · obtain ⟨j, rfl⟩ : ∃ j, i = 102 + j := ⟨i - 102, by omega⟩
        rw [msL_bind mm j (by omega), g7]; exact arr_at k7 j (by omega)
      by_cases i8 : i < 166
      · obtain ⟨j, rfl⟩ : ∃ j, i = 134 + j := ⟨i - 134, by omega⟩
        rw [msL_share mm j (by omega), g8]; exact arr_at k8 j (by omega)
      by_cases i9 : i < 230
      · obtain ⟨j, rfl⟩ : ∃ j, i = 166 + j := ⟨i - 166, by omega⟩
        rw [msL_sig mm j (by omega), g9]; exact arr_at k9 j (by omega)
      by_cases i10 : i = 230
      · subst i10; rw [ms_code, g10]; exact c10
      rw [List.getElem?_eq_none (by omega), List.getElem?_eq_none (by rw [msL_len]; omega)]
    unfold msC
    rw [← he, ← hC]
set_option maxRecDepth 100000 in
theorem open_msg {H : Type} {enc : TypeId × Value → H} {w : World} {r : Reach} {b0 base : Nat} {spare : Nat → Bool} {held : Bool} {v : Value} {dd : DataW H} {p : List MemPlace}
    (hv : Value.okWide Tryz.prog w r b0 35 v) (hT : DataW.Trod enc Tryz.prog w base spare held 35 v dd p) :
    ∃ (m : Ms) (N : Nat) (d : Nat → Int) (h b : Nat → Nat → Nat) (M : Nat) (ft : Nat → Nat), v = .agg (msC m) ∧ MsB m ∧ Cl w m.list N d h b ∧ Sl w m.text M ft := by
  obtain ⟨m, N, d, h, b, M, ft, q1, q2, q3, q4, _⟩ := open_msgz hv hT
  exact ⟨m, N, d, h, b, M, ft, q1, q2, q3, q4⟩
theorem cmtBytes : Tryz.prog.bytesOf 27 = 72 := by kernel_rfl
theorem u8Bytes : Tryz.prog.bytesOf 5 = 1 := by kernel_rfl
theorem msFts : ((Tryz.prog.fieldsOf 35).toList.map (·.type))[5]? = some 28 ∧ ((Tryz.prog.fieldsOf 35).toList.map (·.type))[6]? = some 29 := ⟨by kernel_rfl, by kernel_rfl⟩
theorem msUnder : Tryz.prog.underlying 35 = some (.struct (Tryz.prog.fieldsOf 35)) := by kernel_rfl
set_option maxRecDepth 100000 in
/-- How long a message's list and text may be. -/
theorem msg_sized {H : Type} {ts : List TypeId} {ds : List (DataW H)} (h : (DataW.weightsEach Tryz.prog ts ds).all (· ≤ reachBytes) = true) {j : Nat} {parts : List (DataW H)} (ht : ts[j]? = some 35) (hd : ds[j]? = some (.agg parts)) {N M : Nat}
    (h5 : N = 0 ∨ ∃ elems spare, parts[5]? = some (.slice elems spare) ∧ elems.length = N) (h6 : M = 0 ∨ ∃ elems spare, parts[6]? = some (.slice elems spare) ∧ elems.length = M) : N ≤ 1954687338211 ∧ M ≤ 140737488351232 := by
  have hw : (DataW.weightsEach Tryz.prog ((Tryz.prog.fieldsOf 35).toList.map (·.type)) parts).all (· ≤ reachBytes) = true := by
    refine List.all_eq_true.2 fun n hn => ?_
    refine List.all_eq_true.1 h n (DataW.weights_mem_each ht hd n ?_)
    simp only [DataW.weights, msUnder]
    exact hn
  refine ⟨?_, ?_⟩
  · rcases h5 with rfl | ⟨e, s, q, rfl⟩
    · omega
    · have q2 := sized_slice hw (j := 5) (t := 28) (e := 27) msFts.1 q Tryz.underlying28
      rw [cmtBytes, reachBytes] at q2
      omega
  · rcases h6 with rfl | ⟨e, s, q, rfl⟩
    · omega
    · have q2 := sized_slice hw (j := 6) (t := 29) (e := 5) msFts.2 q Tryz.underlying29
      rw [u8Bytes, reachBytes] at q2
      omega
end Go.Proofs.YtgjclegpnbjlkaaGreatDoor

/- The package variables that the row lists: the two tables of sha512, and the powers of ten. -/
set_option linter.constructorNameAsVariable false
namespace Go.Proofs.YtgjclegpnbjlkaaGreatDoor
open Go.ChangeShapes Go.WideShapes Go.ChangeAt Go.RowKit Go.Deep

/-- The row's list. -/
abbrev tabs : List (String × DataW Unit) := [("math/bits.deBruijn32tab", Rows.laid_math_bits_deBruijn32tab), ("math/bits.deBruijn64tab", Rows.laid_math_bits_deBruijn64tab), ("internal/strconv.uint64pow10", Rows.laid_internal_strconv_uint64pow10), ("rime/sha512.firstWords", Rows.laid_rime_sha512_firstWords), ("rime/sha512.roundWords", Rows.laid_rime_sha512_roundWords)]
def tabs5 : List (String × DataW Unit) := [("math/bits.deBruijn32tab", Rows.laid_math_bits_deBruijn32tab), ("math/bits.deBruijn64tab", Rows.laid_math_bits_deBruijn64tab), ("internal/strconv.uint64pow10", Rows.laid_internal_strconv_uint64pow10), ("rime/sha512.firstWords", Rows.laid_rime_sha512_firstWords), ("rime/sha512.roundWords", Rows.laid_rime_sha512_roundWords)]
theorem laidMetH_cons {P : Program} {l m : List (String × DataW Unit)} {w : World} {x : String × DataW Unit} {xs : List (String × DataW Unit)} (hf : (l.filter fun x => x.2.handleName?.isSome) = x :: xs) (hm : (l.filter fun x => x.2.handleName?.isNone) = m) (h : laidMetH P l w) : laidMet P m w := by
  unfold laidMetH at h
  rw [hf] at h
  rw [← hm]
  exact h.1
theorem glF : Tryz.prog.globalNamed "rime/sha512.firstWords" = some 1 := by kernel_rfl
theorem glK : Tryz.prog.globalNamed "rime/sha512.roundWords" = some 2 := by kernel_rfl
theorem glP : Tryz.prog.globalNamed "internal/strconv.uint64pow10" = some 3 := by kernel_rfl
theorem tyF : (Tryz.prog.globals[1]?).map (·.type) = some 189 := by kernel_rfl
theorem tyK : (Tryz.prog.globals[2]?).map (·.type) = some 221 := by kernel_rfl
theorem tyP : (Tryz.prog.globals[3]?).map (·.type) = some 263 := by kernel_rfl
theorem u64Cells : Tryz.prog.cellsOf 188 = 1 := by kernel_rfl
theorem S8Cells : Tryz.prog.cellsOf 189 = 8 := by kernel_rfl
theorem W80Cells : Tryz.prog.cellsOf 221 = 80 := by kernel_rfl
theorem P20Cells : Tryz.prog.cellsOf 263 = 20 := by kernel_rfl
def ziF : List Int := IVL.map Int.ofNat
def ziK : List Int := KL.map Int.ofNat
theorem laF : Rows.laid_rime_sha512_firstWords (H := Unit) = Lib.tabData .u64 ziF := by kernel_rfl
theorem laK : Rows.laid_rime_sha512_roundWords (H := Unit) = Lib.tabData .u64 ziK := by kernel_rfl
theorem laP : Rows.laid_internal_strconv_uint64pow10 (H := Unit) = Lib.tabData .u64 Lib.pow10Tab := by kernel_rfl
theorem arF : (ziF.map fun z => Value.int .u64 z).toArray = vC 8 IV := by kernel_rfl
theorem arK : (ziK.map fun z => Value.int .u64 z).toArray = vC 80 KK := by kernel_rfl
theorem of_var {W : World} {n : String} {g : Nat} {cs : Array Value} (hg : Tryz.prog.globalNamed n = some g) (h : W.var? Tryz.prog n = some cs) : ∃ t f, W.heap[g]? = some (.cells cs t f) := by
  unfold World.var? at h
  rw [hg] at h
  simp only [Option.bind_some] at h
  split at h
  · next c t f e => obtain rfl := Option.some.inj h; exact ⟨t, f, e⟩
  · cases h
theorem laid5 {W : World} (h : laidMetH Tryz.prog tabs W) : laidMet Tryz.prog tabs5 W := by
  rw [MakeChecks.laidMetH_plain _ _ _ (by kernel_rfl)] at h
  exact h
theorem gl_of_laid {W : World} (h0 : laidMetH Tryz.prog tabs W) : Gl W := by
  have h5 := laid5 h0
  unfold tabs5 at h5
  have h := h5.tail.tail.tail
  have h2 := h.tail
  rw [laF] at h
  rw [laK] at h2
  have q1 := Lib.tabIs_of_head glF tyF Tryz.underlying189 Tryz.underlying188 u64Cells S8Cells h
  have q2 := Lib.tabIs_of_head glK tyK Tryz.underlying221 Tryz.underlying188 u64Cells W80Cells h2
  unfold Lib.TabIs at q1 q2
  rw [arF] at q1
  rw [arK] at q2
  obtain ⟨t1, f1, e1⟩ := of_var glF q1
  obtain ⟨t0, f0, e0⟩ := of_var glK q2
  exact ⟨t0, f0, t1, f1, e0, e1⟩
theorem pw_of_laid {W : World} (h0 : laidMetH Tryz.prog tabs W) : Pw W := by
  have h5 := laid5 h0
  unfold tabs5 at h5
  have h := h5.tail.tail
  rw [laP] at h
  have q := Lib.tabIs_of_head glP tyP Tryz.underlying263 Tryz.underlying188 u64Cells P20Cells h
  unfold Lib.TabIs at q
  obtain ⟨t, f, e⟩ := of_var glP q
  exact ⟨_, t, f, glP, e⟩
/-- The door's own heap meets the condition. -/
theorem door_met (os : Os) (args : Array Value) : laidMetH Tryz.prog tabs ((World.doorLaid Tryz.prog 400 os).forCall (fun _ _ => 0) ⟨#[], args, []⟩).memory :=
  laidMetH_of_parts3 (fuel := 8) (laidMet_of_run' 8 (by kernel_rfl) (by kernel_rfl)) (by kernel_rfl) (by kernel_rfl)
end Go.Proofs.YtgjclegpnbjlkaaGreatDoor
