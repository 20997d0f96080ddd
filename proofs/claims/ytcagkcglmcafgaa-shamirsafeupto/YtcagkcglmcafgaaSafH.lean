/- ShamirSafe: helpers. -/
import Derived.Test.YtcagkcglmcafgaaMgH
set_option linter.unusedVariables false
set_option linter.unusedSimpArgs false
set_option linter.unnecessarySimpa false
namespace Go.Proofs.Ytcagkcglmcafgaa
open Go.RowKit N

/-- An int as the number that its 64 bits are. -/
def wu (d : Int) : Int := IntKind.u64.wrap d
theorem wu_nat (d : Int) : ∃ n : Nat, wu d = (n : Int) ∧ n < 18446744073709551616 := by
  unfold wu
  rw [IntKind.wrap_u64]
  refine ⟨(d % 18446744073709551616).toNat, by omega, by omega⟩
theorem wu_r (d : Int) : R256 (wu d) := by
  obtain ⟨n, e, h⟩ := wu_nat d
  rw [e]
  exact ⟨by omega, by omega⟩
theorem wu_id {d : Int} (h : 1 ≤ d ∧ d ≤ 255) : wu d = d := by unfold wu; rw [IntKind.wrap_u64]; omega
set_option maxHeartbeats 4000000 in
set_option maxRecDepth 100000 in
theorem Place_w (d : Int) (w : World) : Calls Try.prog 7 #[.int .i64 d] w fun e w' => e = .returned (fe (wu d)) ∧ Chg w w' [] := by
  have F0 : Blk (w.alloc (.cells z32 24)) w.heap.size z32 24 := Blk.new w z32 24
  have hc : Chg w (w.alloc (.cells z32 24)) [] := (Chg.refl w []).alloc _
  obtain ⟨n, hw, hn⟩ := wu_nat d
  have e1 : IntKind.u64.wrap d = (n : Int) := hw
  rw [hw]
  clear hw
  go_enter Try.func7, Try.ntmps7
  go_wp2_with fail
  refine (FromInt_q n hn _).mono ?_
  rintro e v1 ⟨rfl, k⟩
  replace F0 := F0.chg k (by simp)
  replace hc := hc.trans1 k
  go_wp2_with (refine wpList_store_row rfl 24 _ _ rfl w.heap.size _ rfl rfl 24 _ F0 feInfo rfl (feC_one _) ?_)
  exact bodyPost_ret (results_cell_row Try.results7 _ _ w.heap.size 24 (feC (n : Int)) (0, 0) _ rfl (Blk.setRow F0 _) Try.underlying24 rfl feInfo) rfl ⟨rfl, hc.setRowNew (by omega) _⟩
theorem built_pt1 (y : Int) : Try.prog.built 29 [(1, fe y)] = some (ptC 0 y) := by kernel_rfl
/-- One point in a block of its own. -/
theorem opt_one {w : World} {gx base : Nat} {x y : Int} (h : Blk w gx (ptC x y) 29) (hb : base ≤ gx) : Opt w base (.slice (some ⟨gx, 0, none⟩) 1 1) [(x, y)] := by
  have e : (rL 64 1 (oP [(x, y)])).toArray = ptC x y := by kernel_rfl
  refine ⟨⟨rL_len _ _ _, Or.inr ⟨gx, 1, (ptC x y), rfl, hb, h, Nat.le_refl _, by unfold maxLen; omega, rfl, ?_⟩⟩, oP_ok 1 _⟩
  rw [← e]
  show List.take (1 * 64) (rL 64 1 (oP [(x, y)])) = rL 64 1 (oP [(x, y)])
  rw [List.take_of_length_le (by rw [rL_len]; exact Nat.le_refl _)]
theorem ownsRow_blkS {w : World} {base : Nat} {T : TypeId} {s : Nat} {v : Value} {n : Nat} {xs : List Value} (h : w.ownsRow base T s v n xs) {k : Nat} (hk : k ∈ ob v) : ∃ C, Blk w k C T := by
  rcases h.2 with ⟨rfl, _⟩ | ⟨g, cap, cur, rfl, hb, hg, _⟩
  · simp [ob, Value.ownBlock] at hk
  · simp [ob, Value.ownBlock] at hk
    subst hk
    exact ⟨cur, hg⟩
theorem blk_ty {w : World} {k : Nat} {C D : Array Value} {T U : TypeId} (h : Blk w k C T) (g : Blk w k D U) : T = U := by
  unfold Blk at h g
  rw [h] at g
  simp at g
  exact g.2
theorem ip_ne : ¬ (3 : TypeId) = 29 := by decide
theorem Opt.keep {w w' : World} {base b2 : Nat} {v u : Value} {l : List (Int × Int)} {m : List Int} (h : Opt w base v l) (hu : Oi w b2 u m) (hc : Chg w w' (ob u)) : Opt w' base v l := OwnR.chg h hc (fun k hk hk2 => by
  obtain ⟨C, q1⟩ := ownsRow_blkS h.1 hk
  obtain ⟨D, q2⟩ := ownsRow_blkS hu.1 hk2
  exact ip_ne (blk_ty q2 q1))
theorem Oi.keepO {w w' : World} {base b2 : Nat} {v u : Value} {l : List (Int × Int)} {m : List Int} (h : Oi w base u m) (hu : Opt w b2 v l) (hc : Chg w w' (ob v)) : Oi w' base u m := OwnR.chg h hc (fun k hk hk2 => by
  obtain ⟨C, q1⟩ := ownsRow_blkS h.1 hk
  obtain ⟨D, q2⟩ := ownsRow_blkS hu.1 hk2
  exact ip_ne (blk_ty q1 q2))
/-- The identifiers, the points so far. -/
def idL (d : Nat → Int) (k : Nat) : List Int := (List.range k).map d
def ptL (s : Int) (d y : Nat → Int) (k : Nat) : List (Int × Int) := (0, s) :: (List.range k).map fun j => (wu (d j), y j)
theorem idL_len (d : Nat → Int) (k : Nat) : (idL d k).length = k := by simp [idL]
theorem ptL_len (s : Int) (d y : Nat → Int) (k : Nat) : (ptL s d y k).length = k + 1 := by simp [ptL]
theorem idL_s (d : Nat → Int) (k : Nat) : idL d (k + 1) = idL d k ++ [d k] := by simp [idL, List.range_succ]
theorem ptL_s (s : Int) (d y : Nat → Int) (k : Nat) : ptL s d y (k + 1) = ptL s d y k ++ [(wu (d k), y k)] := by simp [ptL, List.range_succ]
theorem Oi.il {w : World} {base : Nat} {v : Value} {d : Nat → Int} {N : Nat} (h : Oi w base v (idL d N)) : Il w v N d := by
  have q := OwnR.rl h
  rw [idL_len] at q
  rcases q.2 with h2 | ⟨g, o, cap, e, h1, h2, h3, h4⟩
  · exact Or.inl h2
  · refine Or.inr ⟨g, o, cap, e, h1, h2, h3, fun i hi => ?_⟩
    have := h4 i hi 0 (.int .i64 (d i)) (by unfold oI idL; simp [List.getD_eq_getElem?_getD, hi])
    rwa [Nat.mul_one, Nat.add_zero] at this
theorem Opt.sf {w : World} {base : Nat} {v : Value} {s : Int} {d y : Nat → Int} {N : Nat} (h : Opt w base v (ptL s d y N)) (hd : ∀ i, i < N → 1 ≤ d i ∧ d i ≤ 255) (hs : R256 s) (hy : ∀ i, i < N → R256 (y i)) : Pl w v (N + 1) (sfX d) (sfY s y) := by
  have q : OwnR w base 29 64 v (N + 1) (oP (ptL s d y N)) := by have q := h; unfold Opt at q; rwa [ptL_len] at q
  have e : ∀ j, j < N + 1 → oP (ptL s d y N) j = pF (sfX d) (sfY s y) j := fun j hj => by
    unfold oP pF
    rcases j with _ | j
    · rfl
    · rw [sfX_s, sfY_s]
      have e1 : (ptL s d y N).getD (j + 1) (0, 0) = (wu (d j), y j) := by unfold ptL; simp [List.getD_eq_getElem?_getD, show j < N by omega]
      rw [e1, wu_id (hd j (by omega))]
  refine ⟨OwnR.rl (q.congr e), fun j hj => ?_⟩
  rcases j with _ | j
  · exact ⟨r256_c0, hs⟩
  · rw [sfX_s, sfY_s]
    have := hd j (by omega)
    exact ⟨⟨by omega, by omega⟩, hy j (by omega)⟩
theorem sf_form {w : World} {base : Nat} {v : Value} {s : Int} {d y : Nat → Int} {N : Nat} (h : Opt w base v (ptL s d y N)) : ∃ p c, v = .slice p (N + 1) c := by
  obtain ⟨p, c, e, _⟩ := (OwnR.rl h).form
  rw [ptL_len] at e
  exact ⟨p, c, e⟩
theorem id_form {w : World} {base : Nat} {v : Value} {d : Nat → Int} {N : Nat} (h : Oi w base v (idL d N)) : ∃ p c, v = .slice p N c := by
  obtain ⟨p, c, e⟩ := h.form
  rw [idL_len] at e
  exact ⟨p, c, e⟩
theorem blk_rangeS {w : World} {b : Nat} {X : Int} (h : Blk w b (feC X) 24) : w.rangeAt b 0 (feL X) := by
  have q := (sb_one h).range (i := 0) (by omega)
  rwa [Nat.zero_mul] at q
/-- A scalar loaded under a guard that lets it. -/
theorem load_g {w : World} {ops : Array Oper} {rest : List Oper} {op : Oper} {a : Act} {Q : Exit → Act → World → Prop} {b : Nat} {X : Int} (hB : Blk w b (feC X) 24) (x : Operand) (hw : Region.wanted op (yielded ops a.tmps) = true) (ho : op.op = .load 24 x) (hx : a.eval x = .pointer (some ⟨b, 0, none⟩))
    (h : wpList Try.prog ops Q rest (a.put op.dst (fe X)) w) : wpList Try.prog ops Q (op :: rest) a w :=
  wpList_step fun K hK => by rw [if_pos hw]; exact wp_load_mid 24 x ho b 0 hx (feL X) _ (blk_rangeS hB) Try.underlying24 rfl feInfo (hK _ _ h)
/-- canon of one. -/
theorem canon_1 {w : World} {gx : Nat} {X : Int} (rX : R256 X) (hB : Blk w gx (feC X) 24) : Calls Try.prog 12 #[.slice (some ⟨gx, 0, none⟩) 1 1] w fun e w' => ∃ g o c, e = .returned (.slice (some ⟨g, o, none⟩) 1 c) ∧ w'.rangeAt g o (feL (ad X 0)) ∧ Chg w w' [] := by
  have L1 : Ls w (.slice (some ⟨gx, 0, none⟩) 1 1) 1 (nT (fun _ => X)) := (sb_one hB).ls (by omega) (fun _ _ => rX) (Nat.le_refl _)
  refine (canon_s _ 1 _ (by omega) w L1).mono ?_
  rintro e w' ⟨r, rfl, O, k⟩
  have O' : Rl w' 32 r 1 (oS (cnL (nT (fun _ => X)) 1)) := by have q := OwnR.rl O; rwa [cnL_len] at q
  obtain ⟨p, c, rfl, hp⟩ := O'.form
  obtain ⟨g, o, rfl, _, hr⟩ := hp 0 (by omega)
  refine ⟨g, o, c, rfl, ?_, k⟩
  unfold oS at hr
  rw [cnL_get _ 1 0 (by omega), Nat.zero_mul, Nat.add_zero, nT_c _ _ rX.1] at hr
  exact hr
theorem cn_ls {w : World} {base : Nat} {v : Value} {f h : Nat → Nat} {M : Nat} (O : Os w base v (cnL f M)) (e : ∀ j, j < M → ad ((f j : Nat) : Int) 0 = ((h j : Nat) : Int)) : Ls w v M h := by
  have q := O.ls (fun j hj => by rw [cnL_len] at hj; rw [cnL_get _ _ _ hj]; exact r256_mod _)
  rw [cnL_len] at q
  exact q.congr fun j hj => by rw [cnL_get _ _ _ hj, e j hj]; rfl
end Go.Proofs.Ytcagkcglmcafgaa
