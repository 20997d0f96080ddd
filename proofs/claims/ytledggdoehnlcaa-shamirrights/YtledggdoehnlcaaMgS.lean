/- Joined: ShAt, ShCn. -/
import Derived.Test.YtledggdoehnlcaaMgD
import Derived.Test.YtledggdoehnlcaaSh8
import Derived.Test.YtledggdoehnlcaaMgQ
/- shamir.At. -/
set_option linter.unusedVariables false
set_option linter.unusedSimpArgs false
set_option linter.unnecessarySimpa false
namespace Go.Proofs.Ytledggdoehnlcaa
open Go.RowKit N

/-- What At answers. -/
def atV (f : Nat → Nat) (N : Nat) (d : Int) : Int := if okI d then ev f d 0 N else 0
def atE (d : Int) : Int := if okI d then 0 else 4
set_option maxHeartbeats 8000000 in
set_option maxRecDepth 100000 in
theorem At_s (v : Value) (N : Nat) (f : Nat → Nat) (hN : N ≤ 4611686018427387904) (d : Int) (w : World) (hL : Ls w v N f) :
    Calls Try.prog 13 #[v, .int .i64 d] w fun e w' => e = .returned (.tuple #[fe (atV f N d), .int .i64 (atE d)]) ∧ Chg w w' [] := by
  unfold atV atE
  by_cases h : 1 ≤ d ∧ d ≤ 255
  · have ho := okI_t h
    have HP : Hid (0 ≤ d ∧ d < 9223372036854775808) := by show 0 ≤ d ∧ d < 9223372036854775808; omega
    have HR : Hid (R256 d) := by show R256 d; unfold R256; omega
    rw [ho, if_pos rfl, if_pos rfl]
    clear h
    go_enter Try.func13, Try.ntmps13
    go_wp2_with (first
      | (with_reducible refine alloc_w rfl 24 rfl (.agg z32) zeroSc z32 rfl ?_; intro rb w2 hrb Br k2)
      | (go_at_call 28; refine (isID_s _ _).mono ?_; rintro e w' ⟨rfl, rfl⟩; rw [ho]))
    refine (place_s d HP.out _).mono ?_
    rintro e w3 ⟨rfl, k3⟩
    go_wp2_with fail
    refine (Eval_s v N f hN d HR.out _ ((hL.chg0 k2).chg0 k3)).mono ?_
    rintro e w4 ⟨rfl, k4⟩
    go_wp2_with (refine store_w ((Br.chg k3 (by simp)).chg k4 (by simp)) rfl 24 _ _ (feC (ev f d 0 N)) rfl rfl rfl feInfo rfl (feC_one _) ?_; intro w7 B7 k7)
    exact bodyPost_ret (results_cell_tmp Try.results13 _ _ rb 24 (feC (ev f d 0 N)) _ _ rfl rfl B7 Try.underlying24 rfl feInfo) rfl ⟨rfl, ((((Chg.refl w []).trans1 k2).trans1 k3).trans1 k4).new k7 hrb⟩
  · have ho := okI_f h
    rw [ho]
    clear h
    go_enter Try.func13, Try.ntmps13
    go_wp2_with (first
      | (with_reducible refine alloc_w rfl 24 rfl (.agg z32) zeroSc z32 rfl ?_; intro rb w2 hrb Br k2)
      | (go_at_call 28; refine (isID_s _ _).mono ?_; rintro e w' ⟨rfl, rfl⟩; rw [ho])
      | (refine gl_build (by rfl) 24 #[] rfl (feC 0) (by kernel_rfl) ?_)
      | (refine store_w Br rfl 24 _ _ (feC 0) rfl rfl rfl feInfo rfl (feC_one _) ?_; intro w7 B7 k7))
    exact bodyPost_ret (results_cell_tmp Try.results13 _ _ rb 24 (feC 0) _ _ rfl rfl B7 Try.underlying24 rfl feInfo) rfl ⟨rfl, ((Chg.refl w []).trans1 k2).new k7 hrb⟩
end Go.Proofs.Ytledggdoehnlcaa

/- rimelaw07.canon. -/
set_option linter.unusedVariables false
set_option linter.unusedSimpArgs false
set_option linter.unnecessarySimpa false
namespace Go.Proofs.Ytledggdoehnlcaa
open Go.RowKit N

/-- The first k, reduced. -/
def cnL (f : Nat → Nat) (k : Nat) : List Int := (List.range k).map fun j => ad ((f j : Nat) : Int) 0
theorem cnL_len (f : Nat → Nat) (k : Nat) : (cnL f k).length = k := by simp [cnL]
theorem cnL_s (f : Nat → Nat) (k : Nat) : cnL f (k + 1) = cnL f k ++ [ad ((f k : Nat) : Int) 0] := by simp [cnL, List.range_succ]
theorem cnL_get (f : Nat → Nat) (k j : Nat) (h : j < k) : (cnL f k).getD j 0 = ad ((f j : Nat) : Int) 0 := by simp [cnL, List.getD_eq_getElem?_getD, h]
theorem append_os {w : World} {ops : Array Oper} {rest : List Oper} {o : Oper} {a : Act} {Q : Exit → Act → World → Prop} (hgd : o.guard = none) (so xo : Operand)
    (ho : o.op = .call { callee := .builtin .append, args := #[so, xo], argTypes := #[25, 25] })
    (base : Nat) (v : Value) (gx : Nat) (l : List Int) (x : Int) (hs : a.eval so = v) (hxe : a.eval xo = .slice (some ⟨gx, 0, none⟩) 1 1) (hown : Os w base v l) (hx : Blk w gx (feC x) 24) (hl : l.length ≤ 2000000) (hbase : base ≤ w.heap.size)
    (h : ∀ v' w', Os w' base v' (l ++ [x]) → Chg w w' (ob v) → wpList Try.prog ops Q rest (a.put o.dst v') w') : wpList Try.prog ops Q (o :: rest) a w :=
  wpList_plain hgd fun _ hK => wp_append_os so xo ho base v gx l x hs hxe hown hx hl hbase fun v' w' q1 q2 => hK _ _ (h v' w' q1 q2)
set_option maxHeartbeats 8000000 in
set_option maxRecDepth 100000 in
theorem canon_s (v : Value) (N : Nat) (f : Nat → Nat) (hN : N ≤ 2000000) (w : World) (hL : Ls w v N f) :
    Calls Try.prog 12 #[v] w fun e w' => ∃ r, e = .returned r ∧ Os w' w.heap.size r (cnL f N) ∧ Chg w w' [] := by
  have HRF : Hid (∀ i, i < N → R256 ((f i : Nat) : Int)) := fun i hi => hL.r256 hi
  obtain ⟨p, cp, rfl, hp⟩ := hL.range
  have HP : Hid (∀ i, i < N → ∃ g o, p = some ⟨g, o, none⟩ ∧ g < w.heap.size ∧ w.rangeAt g (o + i * 32) (feL (f i : Nat))) := hp
  have HN : Hid (N ≤ 2000000) := hN
  obtain ⟨ie, hie, hiz, his, hib⟩ := scRowL
  have O0 : Os w w.heap.size (.slice none 0 0) (cnL f 0) := OwnR.nil _ _ _ _ _
  clear hp hL hN
  go_enter Try.func12, Try.ntmps12
  go_wp2_with fail
  go_loopw [3, 4] (fun t3 t wr => ∃ i : Nat, i ≤ N ∧ t = .int .i64 (i : Int) ∧ Os wr w.heap.size t3 (cnL f i) ∧ Chg w wr []) (fun _ t _ => (N - intOf t).toNat)
  case atStart => exact ⟨0, Nat.zero_le _, rfl, O0, Chg.refl w []⟩
  case round =>
    clear O0
    rename_i u3 u4
    obtain ⟨i, hi, rfl, O, C⟩ := hrel
    by_cases h : i < N
    · have hI : (i : Int) < (N : Int) := by omega
      have hI0 : (0 : Int) ≤ (i : Int) := by omega
      have e1 : IntKind.i64.wrap ((i : Int) + 1) = (i : Int) + 1 := by have := HN.out; rw [IntKind.wrap_i64]; omega
      have HMs : Hid _ := mN N i h
      have HI1 : Hid (i + 1 ≤ N) := h
      obtain ⟨g, o, rfl, hg, hF⟩ := HP.out i h
      have hF' := rangeAt_chg hF hg C (by simp)
      have HR : Hid (R256 ((f i : Nat) : Int)) := HRF.out i h
      have HOB : Hid (∀ i, i ∈ ob u3 → w.heap.size ≤ i) := fun i hi => (ob_own O i hi).1
      have HCz : Hid (w.heap.size ≤ wr.heap.size) := C.size
      obtain ⟨X, hX⟩ : ∃ X, ad ((f i : Nat) : Int) 0 = X := ⟨_, rfl⟩
      have HX : Hid (ad ((f i : Nat) : Int) 0 = X) := hX
      have HS : Hid (cnL f (i + 1) = cnL f i ++ [X]) := by show _ = _; rw [cnL_s, hX]
      clear hF hg h hi hX
      go_wp2_with (first
        | (with_reducible refine load_sc ?_ (.tmp 14) ?_ g (o + i * 32) ((f i : Nat) : Int) ?_ hF' ?_
           · rfl
           · rfl
           · rfl)
        | (refine gl_build (by rfl) 24 #[] rfl (feC 0) (by kernel_rfl) ?_))
      refine (Add_q _ 0 HR.out r256_c0 _).mono ?_
      rintro e w1 ⟨rfl, k1⟩
      rw [HX.out]
      go_wp2_with (first
        | (with_reducible refine bslice_w ?_ 25 24 (.tmp 17) ?_ (fe X) ?_ (feC X) ie (.agg z32) Try.underlying25 hie hiz 32 his (by omega) (by omega) (fill_sc _) ?_
           · rfl
           · rfl
           · rfl
           intro gx w2 hgx Bg k2)
        | (with_reducible refine append_os ?_ (.tmp 11) (.tmp 18) ?_ w.heap.size u3 gx (cnL f i) X ?_ ?_ ((O.chg k1).chg k2) Bg (by rw [cnL_len]; have := HN.out; have := HI1.out; omega) (by have := HCz.out; have := k1.size; have := k2.size; omega) ?_
           · rfl
           · rfl
           · rfl
           · rfl
           intro v7 w7 O7 k7))
      have C7 : Chg w w7 [] := ((C.trans1 k1).trans1 k2).trans k7 (fun i hi => Or.inr (HOB.out i hi))
      clear k1 k2 k7 O C Bg hgx hF'
      go_roundw
      case rel => exact ⟨i + 1, HI1.out, by go_num, by rw [HS.out]; exact O7, C7⟩
      case measure => exact HMs.out
    · obtain rfl : i = N := by omega
      have hI : ¬ (i : Int) < (i : Int) := by omega
      go_wp2_with fail
      go_ret
      exact ⟨_, rfl, O, C⟩
end Go.Proofs.Ytledggdoehnlcaa
