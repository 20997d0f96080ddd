/- Joined: MapS, WtA. -/
import Derived.Test.YtledggdoehnlcaaGreatMgC
import Derived.Test.YtledggdoehnlcaaGreatMgD
import Derived.MapKept
import Derived.Test.YtledggdoehnlcaaGreatMgH
/- A map from identifiers to scalars, of the call's own. -/
set_option linter.unusedVariables false
set_option linter.unusedSimpArgs false
set_option linter.unnecessarySimpa false
namespace Go.Proofs.YtledggdoehnlcaaGreat
open Go.RowKit Go.MapKept N

def mE (d v : Nat → Int) (j : Nat) : MapEntry := { key := .int .i64 (d j), val := fe (v j), born := j }
def mL (d v : Nat → Int) (k : Nat) : List MapEntry := (List.range k).map (mE d v)
/-- A map with the entries d j to v j, j below k. -/
def Mp (w : World) (b k : Nat) (d v : Nat → Int) : Prop := w.heap[b]? = some (.map (mL d v k).toArray k)
theorem Mp.lt {w : World} {b k : Nat} {d v : Nat → Int} (h : Mp w b k d v) : b < w.heap.size := (Array.getElem?_eq_some_iff.1 h).1
theorem Mp.chg {w w' : World} {b k : Nat} {d v : Nat → Int} {l : List Nat} (h : Mp w b k d v) (hc : Chg w w' l) (hb : ¬ b ∈ l) : Mp w' b k d v := by
  unfold Mp
  rw [hc.block b h.lt hb]
  exact h
theorem mL_s (d v : Nat → Int) (k : Nat) : mL d v (k + 1) = mL d v k ++ [mE d v k] := by simp [mL, List.range_succ]
theorem find_no (x : Int) : ∀ (l : List MapEntry) (i : Nat), (∀ e ∈ l, ∃ y, e.key = .int .i64 y ∧ ¬ x = y) → Instr.findNow (.int .i64) (.int .i64 x) l i = some none
  | [], _, _ => rfl
  | e :: es, i, h => by
    obtain ⟨y, hy, hn⟩ := h e (by simp)
    unfold Instr.findNow
    rw [hy]
    have : (x == y) = false := by simpa using hn
    simp only [Instr.sameNow, if_true, this]
    exact find_no x es (i + 1) (fun e he => h e (by simp [he]))
theorem find_at (x : Int) (u : Value) : ∀ (l : List MapEntry) (i j : Nat), (∀ m e, m < j → l[m]? = some e → ∃ y, e.key = .int .i64 y ∧ ¬ x = y) → (∃ e, l[j]? = some e ∧ e.key = .int .i64 x ∧ e.val = u) → Instr.findNow (.int .i64) (.int .i64 x) l i = some (some (i + j, u))
  | [], i, j, _, ⟨e, h, _⟩ => by simp at h
  | e :: es, i, 0, _, ⟨e', h, h1, h2⟩ => by
    simp at h
    subst h
    unfold Instr.findNow
    rw [h1]
    have : (x == x) = true := by simp
    simp only [Instr.sameNow, if_true, this]
    rw [h2, Nat.add_zero]
  | e :: es, i, j + 1, hm, ⟨e', h, h1, h2⟩ => by
    obtain ⟨y, hy, hn⟩ := hm 0 e (by omega) rfl
    unfold Instr.findNow
    rw [hy]
    have : (x == y) = false := by simpa using hn
    simp only [Instr.sameNow, if_true, this]
    rw [find_at x u es (i + 1) j (fun m e2 hmj he => hm (m + 1) e2 (by omega) (by simpa using he)) ⟨e', by simpa using h, h1, h2⟩, show i + 1 + j = i + (j + 1) by omega]
theorem mL_get (d v : Nat → Int) (k m : Nat) (e : MapEntry) (h : (mL d v k)[m]? = some e) : m < k ∧ e = mE d v m := by
  unfold mL at h
  rw [List.getElem?_map] at h
  by_cases hm : m < k
  · rw [List.getElem?_range hm] at h
    simp at h
    exact ⟨hm, h.symm⟩
  · rw [List.getElem?_eq_none (by simp; omega)] at h
    simp at h
/-- What stands at an identifier. -/
theorem mp_look {w : World} {b k : Nat} {d v : Nat → Int} (h : Mp w b k d v) (hd : ∀ i j, i < k → j < k → d i = d j → i = j) {j : Nat} (hj : j < k) :
    (Instr.lookup 77 (.map (some b)) (.int .i64 (d j)) false).run Tryz.prog w = .ok (fe (v j)) w := by
  have hf : Instr.findNow (.int .i64) (.int .i64 (d j)) (mL d v k) 0 = some (some (0 + j, fe (v j))) := by
    refine find_at (d j) (fe (v j)) (mL d v k) 0 j (fun m e hm he => ?_) ⟨mE d v j, ?_, rfl, rfl⟩
    · obtain ⟨h1, rfl⟩ := mL_get d v k m e he
      exact ⟨d m, rfl, fun e2 => by have := hd j m hj h1 e2; omega⟩
    · unfold mL
      rw [List.getElem?_map, List.getElem?_range hj]
      rfl
  simp [Instr.lookup, run_underlying Tryz.underlying77, MapKept.run_getObj_map (show w.heap[b]? = some (.map _ _) from h), MapKept.run_checkKey (k := .int .i64 (d j)) Tryz.underlying3 (by simp [IsKey]) _ 9999, MapKept.run_findKey Tryz.underlying3 hf, Result.andThen]
/-- An entry more. -/
theorem mp_put {w : World} {b k : Nat} {d v : Nat → Int} (h : Mp w b k d v) (hd : ∀ j, j < k → ¬ d j = d k) :
    ∃ w', (Instr.mapUpdate 77 (.map (some b)) (.int .i64 (d k)) (fe (v k))).run Tryz.prog w = .ok () w' ∧ Mp w' b (k + 1) d v ∧ Chg w w' [b] := by
  have hf : Instr.findNow (.int .i64) (.int .i64 (d k)) (mL d v k) 0 = some none := by
    refine find_no (d k) (mL d v k) 0 (fun e he => ?_)
    unfold mL at he
    obtain ⟨m, hm, rfl⟩ := List.mem_map.1 he
    exact ⟨d m, rfl, fun e => hd m (List.mem_range.1 hm) e.symm⟩
  refine ⟨{ w with heap := w.heap.setIfInBounds b (.map ((mL d v k).toArray.push (mE d v k)) (k + 1)) }, ?_, ?_, ?_⟩
  · simp [Instr.mapUpdate, run_underlying Tryz.underlying77, MapKept.run_getObj_map (show w.heap[b]? = some (.map _ _) from h), MapKept.run_checkKey (k := .int .i64 (d k)) Tryz.underlying3 (by simp [IsKey]) false 9999, MapKept.run_findKey Tryz.underlying3 hf, MapKept.run_setObj_map _ (show w.heap[b]? = some (.map _ _) from h), Result.andThen, mE]
  · unfold Mp
    have e := (heap_set (o' := .map ((mL d v k).toArray.push (mE d v k)) (k + 1)) h).1
    rw [e, mL_s]
    simp
  · exact ⟨rfl, rfl, rfl, by simp, fun i _ hi => (heap_set (o' := .map ((mL d v k).toArray.push (mE d v k)) (k + 1)) h).2 i (by simpa using hi)⟩
theorem wp_look_m {w : World} {o : Oper} {a : Act} {K : Act → World → Prop} {Q : Exit → Act → World → Prop} (m x : Operand) (ho : o.op = .lookup 77 m x false) (b k j : Nat) (d v : Nat → Int) (hm : a.eval m = .map (some b)) (hx : a.eval x = .int .i64 (d j)) (hM : Mp w b k d v) (hd : ∀ i j, i < k → j < k → d i = d j → i = j) (hj : j < k)
    (h : K (a.put o.dst (fe (v j))) w) : o.wp Tryz.prog a w K Q := by
  unfold Oper.wp
  simp [execOp, ho, hm, hx, mp_look hM hd hj, Result.andThen]
  exact h
theorem look_m {w : World} {ops : Array Oper} {rest : List Oper} {o : Oper} {a : Act} {Q : Exit → Act → World → Prop} (hg : o.guard = none) (m x : Operand) (ho : o.op = .lookup 77 m x false) (b k j : Nat) (d v : Nat → Int) (hm : a.eval m = .map (some b)) (hx : a.eval x = .int .i64 (d j)) (hM : Mp w b k d v) (hd : ∀ i j, i < k → j < k → d i = d j → i = j) (hj : j < k)
    (h : wpList Tryz.prog ops Q rest (a.put o.dst (fe (v j))) w) : wpList Tryz.prog ops Q (o :: rest) a w :=
  wpList_plain hg fun _ hK => wp_look_m m x ho b k j d v hm hx hM hd hj (hK _ _ h)
theorem wp_put_m {w : World} {o : Oper} {a : Act} {K : Act → World → Prop} {Q : Exit → Act → World → Prop} (m x y : Operand) (ho : o.op = .mapUpdate 77 m x y) (b k : Nat) (d v : Nat → Int) (hm : a.eval m = .map (some b)) (hx : a.eval x = .int .i64 (d k)) (hy : a.eval y = fe (v k)) (hM : Mp w b k d v) (hd : ∀ j, j < k → ¬ d j = d k)
    (h : ∀ w', Mp w' b (k + 1) d v → Chg w w' [b] → K (a.put o.dst undef) w') : o.wp Tryz.prog a w K Q := by
  obtain ⟨w', hr, h1, h2⟩ := mp_put hM hd
  unfold Oper.wp
  simp [execOp, ho, hm, hx, hy, hr, Result.andThen]
  exact h w' h1 h2
theorem put_m {w : World} {ops : Array Oper} {rest : List Oper} {o : Oper} {a : Act} {Q : Exit → Act → World → Prop} (hg : o.guard = none) (m x y : Operand) (ho : o.op = .mapUpdate 77 m x y) (b k : Nat) (d v : Nat → Int) (hm : a.eval m = .map (some b)) (hx : a.eval x = .int .i64 (d k)) (hy : a.eval y = fe (v k)) (hM : Mp w b k d v) (hd : ∀ j, j < k → ¬ d j = d k)
    (h : ∀ w', Mp w' b (k + 1) d v → Chg w w' [b] → wpList Tryz.prog ops Q rest (a.put o.dst undef) w') : wpList Tryz.prog ops Q (o :: rest) a w :=
  wpList_plain hg fun _ hK => wp_put_m m x y ho b k d v hm hx hy hM hd (fun w' q1 q2 => hK _ _ (h w' q1 q2))
/-- make of a map, with a hint. -/
theorem make_m {w : World} {ops : Array Oper} {rest : List Oper} {o : Oper} {a : Act} {Q : Exit → Act → World → Prop} (hg : o.guard = none) (x : Operand) (ho : o.op = .makeMap 77 (some x)) (n : Int) (d v : Nat → Int) (hx : a.eval x = .int .i64 n)
    (h : ∀ b w', w.heap.size ≤ b → Mp w' b 0 d v → Chg w w' [] → wpList Tryz.prog ops Q rest (a.put o.dst (.map (some b))) w') : wpList Tryz.prog ops Q (o :: rest) a w :=
  wpList_plain hg fun K hK => by
    have hr : (Instr.makeMap 77 (some (.int .i64 n))).run Tryz.prog w = .ok (.map (some w.heap.size)) (w.alloc (.map #[] 0)) := by
      simp [Instr.makeMap, run_underlying Tryz.underlying77, asInt, asIntOf, Result.andThen, run_newObj_alloc]
    unfold Oper.wp
    simp [execOp, ho, hx, hr, Result.andThen]
    exact hK _ _ (h w.heap.size _ (Nat.le_refl _) (by unfold Mp; exact (heap_alloc w _).1) ((Chg.refl w []).alloc _))
end Go.Proofs.YtledggdoehnlcaaGreat

/- shamir.withoutEach, weightsAt, Interpolate. -/
set_option linter.unusedVariables false
set_option linter.unusedSimpArgs false
set_option linter.unnecessarySimpa false
namespace Go.Proofs.YtledggdoehnlcaaGreat
open Go.RowKit N

theorem blk_range {w : World} {b : Nat} {X : Int} (h : Blk w b (feC X) 24) : w.rangeAt b 0 (feL X) := by
  have q := (sb_one h).range (i := 0) (by omega)
  rwa [Nat.zero_mul] at q
/-- The products ahead, the last k of them turned into those of all others. -/
def wst (l : Nat → Int) (N k j : Nat) : Int := if j + k < N then ahP l j else weP l N j
theorem wst_at (l : Nat → Int) (N k q : Nat) (h : q + k + 1 = N) : wst l N k q = ahP l q := if_pos (by omega)
theorem wst_step (l : Nat → Int) (N k q : Nat) (h : q + k + 1 = N) (j : Nat) : upS (wst l N k) q (ml (ahP l q) (bhP l N k)) j = wst l N (k + 1) j := by
  unfold upS wst
  by_cases e : j = q
  · subst e
    rw [if_pos rfl, if_neg (by omega)]
    unfold weP
    rw [show N - 1 - j = k by omega]
  · rw [if_neg e]
    by_cases h2 : j + k < N
    · rw [if_pos h2, if_pos (by omega)]
    · rw [if_neg h2, if_neg (by omega)]
set_option maxHeartbeats 16000000 in
set_option maxRecDepth 100000 in
theorem withoutEach_s (v : Value) (N : Nat) (f : Nat → Nat) (l : Nat → Int) (hl : ∀ j, j < N → ((f j : Nat) : Int) = l j) (hN : N ≤ 1000000) (w : World) (hL : Ls w v N f) :
    Calls Tryz.prog 69 #[v] w fun e w' => ∃ g, w.heap.size ≤ g ∧ e = .returned (.slice (some ⟨g, 0, none⟩) N N) ∧ Sb w' g N (weP l N) ∧ Chg w w' [] := by
  have HRL : Hid (∀ i, i < N → R256 (l i)) := fun i hi => by rw [← hl i hi]; exact hL.r256 hi
  obtain ⟨p, cp, rfl, hp⟩ := hL.range
  have HP : Hid (∀ i, i < N → ∃ g o, p = some ⟨g, o, none⟩ ∧ g < w.heap.size ∧ w.rangeAt g (o + i * 32) (feL (l i))) := fun i hi => by rw [← hl i hi]; exact hp i hi
  have HN : Hid (N ≤ 1000000) := hN
  have HB1 := built_1
  have e0 : IntKind.i64.wrap ((N : Int) - 1) = (N : Int) - 1 := by rw [IntKind.wrap_i64]; omega
  clear hp hL hN hl
  go_enter Tryz.func69, Tryz.ntmps69
  go_wp2_with (first
    | (with_reducible refine alloc_w rfl 24 rfl (.agg z32) zeroSc z32 rfl ?_; intro ab w2 hab Ba k2)
    | (refine make_w rfl _ _ rfl N (by have := HN.out; omega) rfl rfl ?_; intro g w1 hg S0 k1)
    | (with_reducible refine build_1 ?_ 24 0 (.const (.int .u8 1)) ?_ (.int .u8 1) ?_ (feC 1) HB1 ?_
       · rfl
       · rfl
       · rfl)
    | (refine store_w Ba rfl 24 _ _ (feC (ahP l 0)) rfl rfl rfl feInfo rfl (feC_one _) ?_; intro w3 Ba3 k3))
  have HG : Hid (w.heap.size ≤ g) := hg
  have HAB : Hid (w.heap.size ≤ ab) := by have := k1.size; show w.heap.size ≤ ab; omega
  have HGN : Hid (¬ g = ab) := by have := S0.lt; show ¬ g = ab; omega
  have HGA : Hid (¬ g ∈ [ab]) := by have := HGN.out; show ¬ g ∈ [ab]; simp; omega
  have HAG : Hid (¬ ab ∈ [g]) := by have := HGN.out; show ¬ ab ∈ [g]; simp; omega
  have C : Chg w w3 [] := (k1.trans1 k2).new k3 HAB.out
  have S1 : Sb w3 g N (fun j => if j < 0 then ahP l j else 0) := ((S0.chg k2 (by simp)).chg k3 HGA.out).congr (fun j _ => (if_neg (by omega)).symm)
  clear k1 k2 k3 S0 Ba hg hab
  go_loopw [14] (fun t wr => ∃ i : Nat, i ≤ N ∧ t = .int .i64 (i : Int) ∧ Blk wr ab (feC (ahP l i)) 24 ∧ Sb wr g N (fun j => if j < i then ahP l j else 0) ∧ Chg w wr []) (fun t _ => (N - intOf t).toNat)
  case atStart => exact ⟨0, Nat.zero_le _, rfl, Ba3, S1, C⟩
  case round =>
    clear S1 C Ba3
    obtain ⟨i, hi, rfl, Ba, S, C⟩ := hrel
    by_cases h : i < N
    · have hI : (i : Int) < (N : Int) := by omega
      have hI0 : (0 : Int) ≤ (i : Int) := by omega
      have e1 : IntKind.i64.wrap ((i : Int) + 1) = (i : Int) + 1 := by have := HN.out; rw [IntKind.wrap_i64]; omega
      have HMs : Hid _ := mN N i h
      have HI : Hid (i < N) := h
      have HRl : Hid (R256 (l i)) := HRL.out i h
      have HRa : Hid (R256 (ahP l i)) := ahP_r l i
      obtain ⟨gp, o, rfl, hg, hF⟩ := HP.out i h
      have hF' := rangeAt_chg hF hg C (by simp)
      have HGS : Hid (¬ gp ∈ [ab]) := by have := HAB.out; show ¬ gp ∈ [ab]; simp; omega
      have HGG : Hid (¬ gp ∈ [g]) := by have := HG.out; show ¬ gp ∈ [g]; simp; omega
      have HGl : Hid (gp < wr.heap.size) := Nat.lt_of_lt_of_le hg C.size
      clear hF hg h hi
      go_wp2_with (first
        | (with_reducible refine load_b Ba 24 (.tmp 4) Tryz.underlying24 ?_ ?_ ?_ ?_ ?_ ?_
           · rfl
           · rfl
           · rfl
           · rfl
           · exact feInfo)
        | (refine store_sb rfl (.tmp 20) (.tmp 19) rfl g N i _ (ahP l i) rfl rfl S HI.out ?_; intro w3 S3 k3))
      replace Ba := Ba.chg k3 HAG.out
      replace C := C.new k3 HG.out
      have hF3 := rangeAt_chg hF' HGl.out k3 HGG.out
      have HGL : Hid (gp < w3.heap.size) := Nat.lt_of_lt_of_le HGl.out k3.size
      clear k3 S hF'
      refine wp_region_held_drew (S := fun w' => Chg w3 w' [ab]) (by kernel_rfl) ((Chg.refl w3 _).drew) (fun hHeld => ?_)
      replace Ba : Blk w3.drew ab (feC (ahP l i)) 24 := Ba
      refine take_val (v := ?_) 1 (some 22) rfl (by kernel_rfl) (by kernel_rfl) (by kernel_rfl) (fun _ _ _ h => h) rfl rfl (fun w hSw => ?_) hHeld ?_
      rotate_left
      · (go_simp; try with_reducible rfl)
      try simp only [Act.put, List.setIfInBounds_toArray, List.set_cons_zero, List.set_cons_succ]
      refine take_val (v := ?_) 2 (some 23) rfl (by kernel_rfl) (by kernel_rfl) (by kernel_rfl) (fun _ _ _ h => h) rfl rfl (fun w hSw => ?_) hHeld ?_
      rotate_left
      · (go_simp; try with_reducible rfl)
      try simp only [Act.put, List.setIfInBounds_toArray, List.set_cons_zero, List.set_cons_succ]
      refine take_val (v := ?_) 3 (some 24) rfl (by kernel_rfl) (by kernel_rfl) (by kernel_rfl) (fun _ _ _ h => h) rfl rfl (fun w hSw => ?_) hHeld ?_
      rotate_left
      · (go_simp; try with_reducible rfl)
      try simp only [Act.put, List.setIfInBounds_toArray, List.set_cons_zero, List.set_cons_succ]
      refine take_val (v := (.agg (feC (l i)))) 4 (some 25) rfl (by kernel_rfl) (by kernel_rfl) (by kernel_rfl) (fun _ _ _ h => h) rfl rfl (fun w hSw => ?_) hHeld ?_
      · exact exec_load_m w 24 _ rfl gp (o + i * 32) rfl (feL (l i)) _ (rangeAt_chg hF3 HGL.out hSw HGS.out) Tryz.underlying24 rfl feInfo
      try simp only [Act.put, List.setIfInBounds_toArray, List.set_cons_zero, List.set_cons_succ]
      refine wpAnyH_ready (rs := [0]) (by kernel_rfl) (by simp) ?_
      refine AllReadyH.cons (o := _) rfl (fun K hK => ?_) ?_
      ·
        rw [if_pos (by rfl)]
        refine wp_load_mid 24 _ rfl ab (0) rfl (feL (ahP l i)) _ (blk_range Ba) Tryz.underlying24 rfl feInfo ?_
        refine hK.out _ _ (hHeld) (fun hHeld => ?_)
        clear hK K
        try simp only [Act.put, List.setIfInBounds_toArray, List.set_cons_zero, List.set_cons_succ]
        refine wpAnyH_ready (rs := [5]) (by kernel_rfl) (by simp) ?_
        refine AllReadyH.cons (o := _) rfl (fun K hK => ?_) ?_
        ·
          go_simp
          refine (Mul_o _ _ HRa.out HRl.out _).mono ?_
          rintro e w5 ⟨rfl, k⟩
          replace Ba := Ba.chg k (by simp)
          go_wp2_with fail
          refine hK.out _ _ (hHeld.trans1 k.wide) (fun hHeld => ?_)
          clear hK K
          try simp only [Act.put, List.setIfInBounds_toArray, List.set_cons_zero, List.set_cons_succ]
          clear k
          refine wpAnyH_ready (rs := [6]) (by kernel_rfl) (by simp) ?_
          refine AllReadyH.cons (o := _) rfl (fun K hK => ?_) ?_
          ·
            rw [if_pos (by rfl)]
            refine wp_store_w Ba 24 _ _ (feC (ahP l (i + 1))) rfl rfl rfl feInfo rfl (feC_one _) ?_
            intro w6 B6 k6
            refine hK.out _ _ (hHeld.trans1 k6) (fun hHeld => ?_)
            clear hK K
            try simp only [Act.put, List.setIfInBounds_toArray, List.set_cons_zero, List.set_cons_succ]
            refine wpAnyH_done (by kernel_rfl) ?_ _
            replace C := C.new hHeld HAB.out
            replace S3 := S3.chg hHeld HGA.out
            clear Ba k6 hHeld hF3
            go_wp2_with fail
            go_roundw
            case rel => exact ⟨i + 1, HI.out, by go_num, B6, S3.congr (fun j _ => upS_step (ahP l) i j), C⟩
            case measure => exact HMs.out
          exact AllReadyH.nil
        exact AllReadyH.nil
      exact AllReadyH.nil
    · obtain rfl : N = i := by omega
      have hI : ¬ (N : Int) < (N : Int) := by omega
      clear h hi Ba
      go_wp2_with (first
        | (with_reducible refine alloc_w rfl 24 rfl (.agg z32) zeroSc z32 rfl ?_; intro bb w2 hbb Bb k2)
        | (with_reducible refine build_1 ?_ 24 0 (.const (.int .u8 1)) ?_ (.int .u8 1) ?_ (feC 1) HB1 ?_
           · rfl
           · rfl
           · rfl)
        | (refine store_w Bb rfl 24 _ _ (feC (bhP l N 0)) rfl rfl rfl feInfo rfl (feC_one _) ?_; intro w3 Bb3 k3))
      have HBB : Hid (w.heap.size ≤ bb) := by have := C.size; show w.heap.size ≤ bb; omega
      have HGBN : Hid (¬ g = bb) := by have := S.lt; show ¬ g = bb; omega
      have HGBB : Hid (¬ g ∈ [bb]) := by have := HGBN.out; show ¬ g ∈ [bb]; simp; omega
      have HBG : Hid (¬ bb ∈ [g]) := by have := HGBN.out; show ¬ bb ∈ [g]; simp; omega
      replace C := (C.trans1 k2).new k3 HBB.out
      have S1 : Sb w3 g N (wst l N 0) := ((S.chg k2 (by simp)).chg k3 HGBB.out).congr (fun j hj => by unfold wst; rw [if_pos hj, if_pos (by omega)])
      clear k2 k3 S Bb hbb hI
      go_loopw [7] (fun t wr => ∃ (z : Int) (k : Nat), t = .int .i64 z ∧ z + k + 1 = N ∧ -1 ≤ z ∧ Blk wr bb (feC (bhP l N k)) 24 ∧ Sb wr g N (wst l N k) ∧ Chg w wr []) (fun t _ => (intOf t + 1).toNat)
      case atStart => exact ⟨(N : Int) - 1, 0, rfl, by omega, by omega, Bb3, S1, C⟩
      case round =>
        clear S1 C Bb3
        obtain ⟨z, k1, rfl, hz1, hz2, Bb, S, C⟩ := hrel
        by_cases h : 0 ≤ z
        · obtain ⟨q, rfl⟩ := Int.eq_ofNat_of_zero_le h
          have hqN : (q : Int) < (N : Int) := by omega
          have e1 : IntKind.i64.wrap ((q : Int) - 1) = (q : Int) - 1 := by have := HN.out; rw [IntKind.wrap_i64]; omega
          have HQK : Hid (q + k1 + 1 = N) := by show q + k1 + 1 = N; omega
          have HQN : Hid (q < N) := by have := HQK.out; show q < N; omega
          have HQ1 : Hid ((q : Int) - 1 + ((k1 + 1 : Nat) : Int) + 1 = N) := by have := HQK.out; show (q : Int) - 1 + ((k1 + 1 : Nat) : Int) + 1 = N; omega
          have HQ2 : Hid (-1 ≤ (q : Int) - 1) := by show -1 ≤ (q : Int) - 1; omega
          have HMq : Hid ((intOf (.int .i64 ((q : Int) - 1)) + 1).toNat < (intOf (.int .i64 (q : Int)) + 1).toNat) := by show _ < _; simp only [intOf]; omega
          have HRl : Hid (R256 (l q)) := HRL.out q HQN.out
          have HRq : Hid (R256 (ahP l q)) := ahP_r l q
          have HRb : Hid (R256 (bhP l N k1)) := bhP_r l N k1
          have HWS : Hid (wst l N k1 q = ahP l q) := wst_at l N k1 q HQK.out
          have HBS : Hid (ml (bhP l N k1) (l q) = bhP l N (k1 + 1)) := by show _ = ml (bhP l N k1) (l (N - 1 - k1)); have := HQK.out; rw [show N - 1 - k1 = q by omega]
          obtain ⟨gp, o, rfl, hg, hF⟩ := HP.out q HQN.out
          have hF' := rangeAt_chg hF hg C (by simp)
          have HGB : Hid (¬ gp ∈ [bb]) := by have := HBB.out; show ¬ gp ∈ [bb]; simp; omega
          have HGG : Hid (¬ gp ∈ [g]) := by have := HG.out; show ¬ gp ∈ [g]; simp; omega
          have HGL : Hid (gp < wr.heap.size) := Nat.lt_of_lt_of_le hg C.size
          clear hF hg hz1 hz2
          go_wp2_with fail
          refine wp_region_held_drew (S := fun w' => Chg wr w' [g]) (by kernel_rfl) ((Chg.refl wr _).drew) (fun hHeld => ?_)
          replace S : Sb wr.drew g N (wst l N k1) := S
          refine take_val (v := ?_) 0 (some 36) rfl (by kernel_rfl) (by kernel_rfl) (by kernel_rfl) (fun _ _ _ h => h) rfl rfl (fun w hSw => ?_) hHeld ?_
          rotate_left
          · (go_simp; try with_reducible rfl)
          try simp only [Act.put, List.setIfInBounds_toArray, List.set_cons_zero, List.set_cons_succ]
          refine take_val (v := ?_) 1 (some 37) rfl (by kernel_rfl) (by kernel_rfl) (by kernel_rfl) (fun _ _ _ h => h) rfl rfl (fun w hSw => ?_) hHeld ?_
          rotate_left
          · (go_simp; try with_reducible rfl)
          try simp only [Act.put, List.setIfInBounds_toArray, List.set_cons_zero, List.set_cons_succ]
          refine take_val (v := ?_) 2 (some 38) rfl (by kernel_rfl) (by kernel_rfl) (by kernel_rfl) (fun _ _ _ h => h) rfl rfl (fun w hSw => ?_) hHeld ?_
          rotate_left
          · (go_simp; try with_reducible rfl)
          try simp only [Act.put, List.setIfInBounds_toArray, List.set_cons_zero, List.set_cons_succ]
          refine take_val (v := ?_) 3 (some 39) rfl (by kernel_rfl) (by kernel_rfl) (by kernel_rfl) (fun _ _ _ h => h) rfl rfl (fun w hSw => ?_) hHeld ?_
          rotate_left
          · (go_simp; try with_reducible rfl)
          try simp only [Act.put, List.setIfInBounds_toArray, List.set_cons_zero, List.set_cons_succ]
          refine take_val (v := ?_) 4 (some 40) rfl (by kernel_rfl) (by kernel_rfl) (by kernel_rfl) (fun _ _ _ h => h) rfl rfl (fun w hSw => ?_) hHeld ?_
          rotate_left
          · (go_simp; try with_reducible rfl)
          try simp only [Act.put, List.setIfInBounds_toArray, List.set_cons_zero, List.set_cons_succ]
          refine take_load 6 (some 42) (feC (bhP l N k1)) rfl (by kernel_rfl) (by kernel_rfl) (by kernel_rfl) (fun _ _ _ h => h) rfl rfl 24 _ rfl bb rfl 24 _ (fun w h => Bb.chg h HBG.out) Tryz.underlying24 rfl (by first | exact feInfo | kernel_rfl) hHeld ?_
          try simp only [Act.put, List.setIfInBounds_toArray, List.set_cons_zero, List.set_cons_succ]
          refine wpAnyH_ready (rs := [5]) (by kernel_rfl) (by simp) ?_
          refine AllReadyH.cons (o := _) rfl (fun K hK => ?_) ?_
          ·
            rw [if_pos (by rfl)]
            refine wp_load_mid 24 _ rfl g (q * 32) rfl (feL (ahP l q)) _ (HWS.out ▸ S.range HQN.out) Tryz.underlying24 rfl feInfo ?_
            refine hK.out _ _ (hHeld) (fun hHeld => ?_)
            clear hK K
            try simp only [Act.put, List.setIfInBounds_toArray, List.set_cons_zero, List.set_cons_succ]
            refine wpAnyH_ready (rs := [7]) (by kernel_rfl) (by simp) ?_
            refine AllReadyH.cons (o := _) rfl (fun K hK => ?_) ?_
            ·
              go_simp
              refine (Mul_o _ _ HRq.out HRb.out _).mono ?_
              rintro e w5 ⟨rfl, k⟩
              replace S := S.chg k (by simp)
              go_wp2_with fail
              refine hK.out _ _ (hHeld.trans1 k.wide) (fun hHeld => ?_)
              clear hK K
              try simp only [Act.put, List.setIfInBounds_toArray, List.set_cons_zero, List.set_cons_succ]
              clear k
              refine take_val (v := ?_) 8 (some 44) rfl (by kernel_rfl) (by kernel_rfl) (by kernel_rfl) (fun _ _ _ h => h) rfl rfl (fun w hSw => ?_) hHeld ?_
              rotate_left
              · (go_simp; try with_reducible rfl)
              try simp only [Act.put, List.setIfInBounds_toArray, List.set_cons_zero, List.set_cons_succ]
              refine wpAnyH_ready (rs := [9]) (by kernel_rfl) (by simp) ?_
              refine AllReadyH.cons (o := _) rfl (fun K hK => ?_) ?_
              ·
                rw [if_pos (by rfl)]
                refine wp_store_sb _ _ rfl g N q _ _ rfl rfl S HQN.out ?_
                intro w7 S7 k6
                refine hK.out _ _ (hHeld.trans1 k6) (fun hHeld => ?_)
                clear hK K
                try simp only [Act.put, List.setIfInBounds_toArray, List.set_cons_zero, List.set_cons_succ]
                refine wpAnyH_done (by kernel_rfl) ?_ _
                replace C := C.new hHeld HG.out
                replace Bb := Bb.chg hHeld HBG.out
                have hF7 := rangeAt_chg hF' HGL.out hHeld HGG.out
                have HGL7 : Hid (gp < w7.heap.size) := Nat.lt_of_lt_of_le HGL.out hHeld.size
                clear S k6 hHeld hF'
                go_wp2_with fail
                refine wp_region_held_drew (S := fun w' => Chg w7 w' [bb]) (by kernel_rfl) ((Chg.refl w7 _).drew) (fun hHeld => ?_)
                replace Bb : Blk w7.drew bb (feC (bhP l N k1)) 24 := Bb
                refine take_val (v := ?_) 1 (some 46) rfl (by kernel_rfl) (by kernel_rfl) (by kernel_rfl) (fun _ _ _ h => h) rfl rfl (fun w hSw => ?_) hHeld ?_
                rotate_left
                · (go_simp; try with_reducible rfl)
                try simp only [Act.put, List.setIfInBounds_toArray, List.set_cons_zero, List.set_cons_succ]
                refine take_val (v := ?_) 2 (some 47) rfl (by kernel_rfl) (by kernel_rfl) (by kernel_rfl) (fun _ _ _ h => h) rfl rfl (fun w hSw => ?_) hHeld ?_
                rotate_left
                · (go_simp; try with_reducible rfl)
                try simp only [Act.put, List.setIfInBounds_toArray, List.set_cons_zero, List.set_cons_succ]
                refine take_val (v := ?_) 3 (some 48) rfl (by kernel_rfl) (by kernel_rfl) (by kernel_rfl) (fun _ _ _ h => h) rfl rfl (fun w hSw => ?_) hHeld ?_
                rotate_left
                · (go_simp; try with_reducible rfl)
                try simp only [Act.put, List.setIfInBounds_toArray, List.set_cons_zero, List.set_cons_succ]
                refine take_val (v := (.agg (feC (l q)))) 4 (some 49) rfl (by kernel_rfl) (by kernel_rfl) (by kernel_rfl) (fun _ _ _ h => h) rfl rfl (fun w hSw => ?_) hHeld ?_
                · exact exec_load_m w 24 _ rfl gp (o + q * 32) rfl (feL (l q)) _ (rangeAt_chg hF7 HGL7.out hSw HGB.out) Tryz.underlying24 rfl feInfo
                try simp only [Act.put, List.setIfInBounds_toArray, List.set_cons_zero, List.set_cons_succ]
                refine wpAnyH_ready (rs := [0]) (by kernel_rfl) (by simp) ?_
                refine AllReadyH.cons (o := _) rfl (fun K hK => ?_) ?_
                ·
                  rw [if_pos (by rfl)]
                  refine wp_load_mid 24 _ rfl bb (0) rfl (feL (bhP l N k1)) _ (blk_range Bb) Tryz.underlying24 rfl feInfo ?_
                  refine hK.out _ _ (hHeld) (fun hHeld => ?_)
                  clear hK K
                  try simp only [Act.put, List.setIfInBounds_toArray, List.set_cons_zero, List.set_cons_succ]
                  refine wpAnyH_ready (rs := [5]) (by kernel_rfl) (by simp) ?_
                  refine AllReadyH.cons (o := _) rfl (fun K hK => ?_) ?_
                  ·
                    go_simp
                    refine (Mul_o _ _ HRb.out HRl.out _).mono ?_
                    rintro e w5 ⟨rfl, k⟩
                    replace Bb := Bb.chg k (by simp)
                    go_wp2_with fail
                    refine hK.out _ _ (hHeld.trans1 k.wide) (fun hHeld => ?_)
                    clear hK K
                    try simp only [Act.put, List.setIfInBounds_toArray, List.set_cons_zero, List.set_cons_succ]
                    clear k
                    refine wpAnyH_ready (rs := [6]) (by kernel_rfl) (by simp) ?_
                    refine AllReadyH.cons (o := _) rfl (fun K hK => ?_) ?_
                    ·
                      rw [if_pos (by rfl)]
                      rw [HBS.out]
                      refine wp_store_w Bb 24 _ _ (feC (bhP l N (k1 + 1))) rfl rfl rfl feInfo rfl (feC_one _) ?_
                      intro w8 B8 k8
                      refine hK.out _ _ (hHeld.trans1 k8) (fun hHeld => ?_)
                      clear hK K
                      try simp only [Act.put, List.setIfInBounds_toArray, List.set_cons_zero, List.set_cons_succ]
                      refine wpAnyH_done (by kernel_rfl) ?_ _
                      replace C := C.new hHeld HBB.out
                      replace S7 := S7.chg hHeld HGBB.out
                      clear Bb k8 hHeld hF7
                      go_wp2_with fail
                      go_roundw
                      case rel => exact ⟨(q : Int) - 1, k1 + 1, by go_num, HQ1.out, HQ2.out, B8, S7.congr (fun j _ => wst_step l N k1 q HQK.out j), C⟩
                      case measure => exact HMq.out
                    exact AllReadyH.nil
                  exact AllReadyH.nil
                exact AllReadyH.nil
              exact AllReadyH.nil
            exact AllReadyH.nil
          exact AllReadyH.nil
        · obtain rfl : z = -1 := by omega
          have HK : Hid (k1 = N) := by show k1 = N; omega
          clear h hz1 hz2
          go_wp2_with fail
          go_ret
          exact ⟨g, HG.out, rfl, S.congr (fun j _ => by unfold wst; rw [HK.out, if_neg (by omega)]), C⟩
theorem dsL_all (x : Int) {d : Nat → Int} : ∀ {k : Nat}, (∀ i, i < k → 1 ≤ d i) → dsL x d 0 k = (List.range k).map (fun j => sb x (d j))
  | 0, _ => rfl
  | k + 1, h => by
    unfold dsL
    rw [if_neg (by have := h k (by omega); omega), dsL_all x (fun i hi => h i (by omega)), List.range_succ, List.map_append]
    rfl
set_option maxHeartbeats 16000000 in
set_option maxRecDepth 100000 in
theorem weightsAt_s (u : Value) (N : Nat) (d : Nat → Int) (h0 : 0 < N) (hN : N ≤ 255) (hd : ∀ i, i < N → 1 ≤ d i ∧ d i ≤ 255) (hdi : ∀ i j, i < N → j < N → d i = d j → i = j) (hz : ∀ i, i < N → ¬ LN ∣ (gpv d N i).toNat) (x : Int) (rx : R256 x) (w : World) (hL : Il w u N d) :
    Calls Tryz.prog 23 #[u, fe x] w fun e w' => ∃ b, w.heap.size ≤ b ∧ e = .returned (.map (some b)) ∧ Mp w' b N d (wtv x d N) ∧ Chg w w' [] := by
  have HLi : Hid (Il w u N d) := hL
  obtain ⟨p, cp, rfl, hp⟩ := hL.form
  have HP : Hid (∀ i, i < N → ∃ g o, p = some ⟨g, o, none⟩ ∧ g < w.heap.size ∧ w.cell? ⟨g, o + i, none⟩ = some (.int .i64 (d i))) := hp
  have HN : Hid (0 < N ∧ N ≤ 255) := ⟨h0, hN⟩
  have HD : Hid (∀ i, i < N → 1 ≤ d i ∧ d i ≤ 255) := hd
  have HDI : Hid (∀ i j, i < N → j < N → d i = d j → i = j) := hdi
  have HZ : Hid (∀ i, i < N → ¬ LN ∣ (gpv d N i).toNat) := hz
  have HRx : Hid (R256 x) := rx
  clear hp hL h0 hN hd hz rx hdi
  go_enter Tryz.func23, Tryz.ntmps23
  go_wp2_with (first
    | (refine box_w rfl 24 _ rfl (feC x) rfl ?_; intro xb w1 hxb Bx k1)
    | (with_reducible refine load_b Bx 24 (.tmp 3) Tryz.underlying24 ?_ ?_ ?_ ?_ ?_ ?_
       · rfl
       · rfl
       · rfl
       · rfl
       · exact feInfo))
  refine (distances_s _ N d HN.out.1 HN.out.2 HD.out x HRx.out 0 w1 (HLi.out.chg k1)).mono ?_
  rintro e w2 ⟨r, rfl, O, k2⟩
  have hds := dsL_all x (d := d) (k := N) (fun i hi => (HD.out i hi).1)
  have LO := O.ls (fun j hj => dsL_r x d 0 N _ (by rw [List.getD_eq_getElem?_getD, List.getElem?_eq_getElem hj]; exact List.getElem_mem hj))
  have hlen : (dsL x d 0 N).length = N := by rw [hds]; simp
  rw [hlen] at LO
  have HFL : Hid (∀ j, j < N → ((((dsL x d 0 N).getD j 0).toNat : Nat) : Int) = sb x (d j)) := fun j hj => by
    rw [hds]
    have e : ((List.range N).map (fun j => sb x (d j))).getD j 0 = sb x (d j) := by simp [List.getD_eq_getElem?_getD, hj]
    have hnn : 0 ≤ sb x (d j) := (r256_mod _).1
    rw [e, Int.toNat_of_nonneg hnn]
  have C : Chg w w2 [] := k1.trans1 k2
  clear k1 k2 O hds hlen Bx hxb
  go_wp2_with fail
  refine (withoutEach_s _ N _ (fun j => sb x (d j)) HFL.out (by have := HN.out; omega) w2 LO).mono ?_
  rintro e w3 ⟨ga, hga, rfl, Sa, k3⟩
  have HGA : Hid (w.heap.size ≤ ga) := by have := C.size; show w.heap.size ≤ ga; omega
  replace C := C.trans1 k3
  clear k3 LO hga HFL
  go_wp2_with fail
  refine (inverseGaps_s _ N d HN.out.1 HN.out.2 HD.out HZ.out w3 (HLi.out.chg C)).mono ?_
  rintro e w4 ⟨gi, hgi, rfl, Si, k4⟩
  replace C := C.trans1 k4
  replace Sa := Sa.chg k4 (by simp)
  clear k4 hgi
  go_wp2_with (refine make_m rfl (.tmp 17) rfl _ d (wtv x d N) rfl ?_; intro mb w5 hmb M k5)
  have HMB : Hid (w.heap.size ≤ mb) := by have := C.size; show w.heap.size ≤ mb; omega
  have HMA : Hid (¬ ga ∈ [mb]) := by have := Sa.lt; show ¬ ga ∈ [mb]; simp; omega
  have HMI : Hid (¬ gi ∈ [mb]) := by have := Si.lt; show ¬ gi ∈ [mb]; simp; omega
  replace C := C.trans1 k5
  replace Sa := Sa.chg k5 (by simp)
  replace Si := Si.chg k5 (by simp)
  clear k5 hmb
  go_loopw [21] (fun t wr => ∃ i : Nat, i ≤ N ∧ t = .int .i64 (i : Int) ∧ Sb wr ga N (weP (fun j => sb x (d j)) N) ∧ Sb wr gi N (igv d N) ∧ Mp wr mb i d (wtv x d N) ∧ Chg w wr []) (fun t _ => (N - intOf t).toNat)
  case atStart => exact ⟨0, Nat.zero_le _, rfl, Sa, Si, M, C⟩
  case round =>
    clear Sa Si M C
    obtain ⟨i, hi, rfl, Sa, Si, M, C⟩ := hrel
    by_cases h : i < N
    · have hI : (i : Int) < (N : Int) := by omega
      have hI0 : (0 : Int) ≤ (i : Int) := by omega
      have e1 : IntKind.i64.wrap ((i : Int) + 1) = (i : Int) + 1 := by have := HN.out; rw [IntKind.wrap_i64]; omega
      have HMs : Hid _ := mN N i h
      have HI : Hid (i < N) := h
      have HNT : Hid (∀ j, j < i → ¬ d j = d i) := fun j hj e => by have := HDI.out j i (by omega) h e; omega
      obtain ⟨gp, o, rfl, hg, hF⟩ := HP.out i h
      have hF' := cell_chg hF hg C (by simp)
      clear hF hg h hi
      go_wp2_with fail
      clear hF'
      refine wp_region_held_drew (S := fun w' => Chg wr w' [mb]) (by kernel_rfl) ((Chg.refl wr _).drew) (fun hHeld => ?_)
      replace M : Mp wr.drew mb i d (wtv x d N) := M
      refine take_val (v := ?_) 0 (some 26) rfl (by kernel_rfl) (by kernel_rfl) (by kernel_rfl) (fun _ _ _ h => h) rfl rfl (fun w hSw => ?_) hHeld ?_
      rotate_left
      · (go_simp; try with_reducible rfl)
      try simp only [Act.put, List.setIfInBounds_toArray, List.set_cons_zero, List.set_cons_succ]
      refine take_val (v := ?_) 1 (some 27) rfl (by kernel_rfl) (by kernel_rfl) (by kernel_rfl) (fun _ _ _ h => h) rfl rfl (fun w hSw => ?_) hHeld ?_
      rotate_left
      · (go_simp; try with_reducible rfl)
      try simp only [Act.put, List.setIfInBounds_toArray, List.set_cons_zero, List.set_cons_succ]
      refine take_val (v := ?_) 2 (some 28) rfl (by kernel_rfl) (by kernel_rfl) (by kernel_rfl) (fun _ _ _ h => h) rfl rfl (fun w hSw => ?_) hHeld ?_
      rotate_left
      · (go_simp; try with_reducible rfl)
      try simp only [Act.put, List.setIfInBounds_toArray, List.set_cons_zero, List.set_cons_succ]
      refine take_val (v := ?_) 3 (some 29) rfl (by kernel_rfl) (by kernel_rfl) (by kernel_rfl) (fun _ _ _ h => h) rfl rfl (fun w hSw => ?_) hHeld ?_
      rotate_left
      · (go_simp; try with_reducible rfl)
      try simp only [Act.put, List.setIfInBounds_toArray, List.set_cons_zero, List.set_cons_succ]
      refine take_val (v := ?_) 4 (some 30) rfl (by kernel_rfl) (by kernel_rfl) (by kernel_rfl) (fun _ _ _ h => h) rfl rfl (fun w hSw => ?_) hHeld ?_
      rotate_left
      · (go_simp; try with_reducible rfl)
      try simp only [Act.put, List.setIfInBounds_toArray, List.set_cons_zero, List.set_cons_succ]
      refine take_val (v := (.agg (feC (weP (fun j => sb x (d j)) N i)))) 5 (some 31) rfl (by kernel_rfl) (by kernel_rfl) (by kernel_rfl) (fun _ _ _ h => h) rfl rfl (fun w hSw => ?_) hHeld ?_
      · exact exec_load_m w 24 _ rfl ga (i * 32) rfl (feL (weP (fun j => sb x (d j)) N i)) _ ((Sa.chg hSw HMA.out).range HI.out) Tryz.underlying24 rfl feInfo
      try simp only [Act.put, List.setIfInBounds_toArray, List.set_cons_zero, List.set_cons_succ]
      refine take_val (v := ?_) 6 (some 32) rfl (by kernel_rfl) (by kernel_rfl) (by kernel_rfl) (fun _ _ _ h => h) rfl rfl (fun w hSw => ?_) hHeld ?_
      rotate_left
      · (go_simp; try with_reducible rfl)
      try simp only [Act.put, List.setIfInBounds_toArray, List.set_cons_zero, List.set_cons_succ]
      refine take_val (v := ?_) 7 (some 33) rfl (by kernel_rfl) (by kernel_rfl) (by kernel_rfl) (fun _ _ _ h => h) rfl rfl (fun w hSw => ?_) hHeld ?_
      rotate_left
      · (go_simp; try with_reducible rfl)
      try simp only [Act.put, List.setIfInBounds_toArray, List.set_cons_zero, List.set_cons_succ]
      refine take_val (v := ?_) 8 (some 34) rfl (by kernel_rfl) (by kernel_rfl) (by kernel_rfl) (fun _ _ _ h => h) rfl rfl (fun w hSw => ?_) hHeld ?_
      rotate_left
      · (go_simp; try with_reducible rfl)
      try simp only [Act.put, List.setIfInBounds_toArray, List.set_cons_zero, List.set_cons_succ]
      refine take_val (v := (.agg (feC (igv d N i)))) 9 (some 35) rfl (by kernel_rfl) (by kernel_rfl) (by kernel_rfl) (fun _ _ _ h => h) rfl rfl (fun w hSw => ?_) hHeld ?_
      · exact exec_load_m w 24 _ rfl gi (i * 32) rfl (feL (igv d N i)) _ ((Si.chg hSw HMI.out).range HI.out) Tryz.underlying24 rfl feInfo
      try simp only [Act.put, List.setIfInBounds_toArray, List.set_cons_zero, List.set_cons_succ]
      refine wpAnyH_ready (rs := [10]) (by kernel_rfl) (by simp) ?_
      refine AllReadyH.cons (o := _) rfl (fun K hK => ?_) ?_
      ·
        go_simp
        refine (Mul_o _ _ (weP_r _ N i) (igv_r d N i) _).mono ?_
        rintro e w5 ⟨rfl, k⟩
        replace M := M.chg k (by simp)
        go_wp2_with fail
        refine hK.out _ _ (hHeld.trans1 k.wide) (fun hHeld => ?_)
        clear hK K
        try simp only [Act.put, List.setIfInBounds_toArray, List.set_cons_zero, List.set_cons_succ]
        clear k
        refine wpAnyH_ready (rs := [11]) (by kernel_rfl) (by simp) ?_
        refine AllReadyH.cons (o := _) rfl (fun K hK => ?_) ?_
        ·
          rw [if_pos (by rfl)]
          refine wp_put_m _ _ _ rfl mb i d (wtv x d N) rfl rfl rfl M HNT.out ?_
          intro w6 M6 k6
          refine hK.out _ _ (hHeld.trans1 k6) (fun hHeld => ?_)
          clear hK K
          try simp only [Act.put, List.setIfInBounds_toArray, List.set_cons_zero, List.set_cons_succ]
          refine wpAnyH_done (by kernel_rfl) ?_ _
          replace C := C.new hHeld HMB.out
          replace Sa := Sa.chg hHeld HMA.out
          replace Si := Si.chg hHeld HMI.out
          clear M k6 hHeld
          go_wp2_with fail
          go_roundw
          case rel => exact ⟨i + 1, HI.out, by go_num, Sa, Si, M6, C⟩
          case measure => exact HMs.out
        exact AllReadyH.nil
      exact AllReadyH.nil
    · obtain rfl : i = N := by omega
      have hI : ¬ (i : Int) < (i : Int) := by omega
      go_wp2_with fail
      go_ret
      exact ⟨mb, HMB.out, rfl, M, C⟩
theorem z32_ws {x : Int} {d y : Nat → Int} {N : Nat} : z32 = feC (wsum x d y N 0) := z32_fe
/-- What Interpolate answers. -/
def ipR (x : Int) (d y : Nat → Int) (N : Nat) : Int := if idR d N = 0 then wsum x d y N N else 0
set_option maxHeartbeats 16000000 in
set_option maxRecDepth 100000 in
theorem Interpolate_s (v : Value) (N : Nat) (d y : Nat → Int) (hN : N ≤ 4611686018427387904) (x : Int) (rx : R256 x) (w : World) (hL : Hl w v N d y) :
    Calls Tryz.prog 7 #[v, fe x] w fun e w' => e = .returned (.tuple #[fe (ipR x d y N), .int .i64 (idR d N)]) ∧ Chg w w' [] := by
  have hK := checkShares_s v N d y hN
  have HL : Hid (Hl w v N d y) := hL
  have HRy : Hid (∀ j, j < N → R256 (y j)) := hL.2
  have HRx : Hid (R256 x) := rx
  obtain ⟨p, cp, rfl, hp⟩ := hL.1.form
  have HP : Hid (∀ i, i < N → ∃ g o, p = some ⟨g, o, none⟩ ∧ g < w.heap.size ∧ w.rangeAt g (o + i * 33) (hF d y i)) := hp
  have HK : Hid (∀ w', Hl w' (.slice p N cp) N d y → Calls Tryz.prog 24 #[.slice p N cp] w' fun e w'' => e = .returned (.int .i64 (idR d N)) ∧ Chg w' w'' []) := hK
  obtain ⟨E, hE⟩ : ∃ E, idR d N = E := ⟨_, rfl⟩
  rw [hE] at HK ⊢
  have HE : Hid (idR d N = E) := hE
  obtain ⟨V, hV⟩ : ∃ V, ipR x d y N = V := ⟨_, rfl⟩
  have HV : Hid (V = if E = 0 then wsum x d y N N else 0) := by show V = _; rw [← hV, ← hE]; rfl
  rw [hV]
  clear hp hL rx hK hN hE hV
  go_enter Tryz.func7, Tryz.ntmps7
  go_wp2_with (first
    | (with_reducible refine alloc_w rfl 24 rfl (.agg z32) zeroSc z32 rfl ?_; intro rb w2 hrb Br k2)
    | (refine box_w rfl 24 _ rfl (feC x) rfl ?_; intro xb w1 hxb Bx k1))
  have HC1 : Hid (Chg w w2 []) := k1.trans1 k2
  replace Bx := Bx.chg k2 (by simp)
  have HRB : Hid (w.heap.size ≤ rb) := by have := k1.size; show w.heap.size ≤ rb; omega
  clear k1 k2 hxb hrb
  refine (HK.out _ (HL.out.chg HC1.out)).mono ?_
  rintro e w3 ⟨rfl, k3⟩
  have HC2 : Hid (Chg w w3 []) := HC1.out.trans1 k3
  replace Bx := Bx.chg k3 (by simp)
  replace Br := Br.chg k3 (by simp)
  clear k3 HC1
  by_cases h : E = 0
  · subst h
    obtain ⟨q1, q2⟩ := idR_zero HE.out
    have HN : Hid (0 < N ∧ N ≤ 255) := ⟨q2, idE_len q1⟩
    have HD : Hid (∀ i, i < N → 1 ≤ d i ∧ d i ≤ 255) := (idE_zero q1).1
    have HDI : Hid (∀ i j, i < N → j < N → d i = d j → i = j) := (idE_zero q1).2
    have HZ : Hid (∀ i, i < N → ¬ LN ∣ (gpv d N i).toNat) := fun i hi => gpv_ne q1 hi
    have HV2 : Hid (V = wsum x d y N N) := by show V = _; rw [HV.out, if_pos rfl]
    clear q1 q2 HV
    go_wp2_with fail
    refine wp_region_held_drew (S := fun w' => Chg w3 w' []) (by kernel_rfl) ((Chg.refl w3 _).drew) (fun hHeld => ?_)
    refine take_val (v := ?_) 0 (some 17) rfl (by kernel_rfl) (by kernel_rfl) (by kernel_rfl) (fun _ _ _ h => h) rfl rfl (fun w hSw => ?_) hHeld ?_
    rotate_left
    · (go_simp; try with_reducible rfl)
    try simp only [Act.put, List.setIfInBounds_toArray, List.set_cons_zero, List.set_cons_succ]
    refine take_load 2 (some 19) (feC x) rfl (by kernel_rfl) (by kernel_rfl) (by kernel_rfl) (fun _ _ _ h => h) rfl rfl 24 _ rfl xb rfl 24 _ (fun w h => Bx.chg h (by simp)) Tryz.underlying24 rfl (by first | exact feInfo | kernel_rfl) hHeld ?_
    try simp only [Act.put, List.setIfInBounds_toArray, List.set_cons_zero, List.set_cons_succ]
    refine wpAnyH_ready (rs := [1]) (by kernel_rfl) (by simp) ?_
    refine AllReadyH.cons (o := _) rfl (fun K hK => ?_) ?_
    ·
      go_simp
      refine (idsOf_s _ N d y (by have := HN.out; omega) _ (HL.out.chg (HC2.out.trans1 hHeld))).mono ?_
      rintro e w5 ⟨gi, hgi, rfl, I, k⟩
      have HI5 := I.il (by have := HN.out; omega)
      have HW3 : Hid (w3.heap.size ≤ w5.heap.size) := (hHeld.trans1 k).size
      go_wp2_with fail
      refine hK.out _ _ (hHeld.trans1 k) (fun hHeld => ?_)
      clear hK K
      try simp only [Act.put, List.setIfInBounds_toArray, List.set_cons_zero, List.set_cons_succ]
      clear k I hgi
      refine wpAnyH_ready (rs := [3]) (by kernel_rfl) (by simp) ?_
      refine AllReadyH.cons (o := _) rfl (fun K hK => ?_) ?_
      ·
        go_simp
        refine (weightsAt_s _ N d HN.out.1 HN.out.2 HD.out HDI.out HZ.out x HRx.out _ HI5).mono ?_
        rintro e w5' ⟨mb, hmb, rfl, M, k⟩
        go_wp2_with fail
        refine hK.out _ _ (hHeld.trans1 k) (fun hHeld => ?_)
        clear hK K
        try simp only [Act.put, List.setIfInBounds_toArray, List.set_cons_zero, List.set_cons_succ]
        clear k
        refine take_val (v := ?_) 4 (some 7) rfl (by kernel_rfl) (by kernel_rfl) (by kernel_rfl) (fun _ _ _ h => h) rfl rfl (fun w hSw => ?_) hHeld ?_
        rotate_left
        · (go_simp; try with_reducible rfl)
        try simp only [Act.put, List.setIfInBounds_toArray, List.set_cons_zero, List.set_cons_succ]
        refine wpAnyH_done (by kernel_rfl) ?_ _
        have C5 := HC2.out.trans1 hHeld
        replace Br := Br.chg hHeld (by simp)
        have HMN : Hid (w.heap.size ≤ mb) := by have := HC2.out.size; have := HW3.out; show w.heap.size ≤ mb; omega
        clear hHeld HI5 Bx hmb
        go_wp2_with (with_reducible refine alloc_w rfl 24 rfl (.agg z32) zeroSc z32 rfl ?_; intro sb w6 hsb Bs0 k6)
        have HSB : Hid (w.heap.size ≤ sb) := by have := C5.size; show w.heap.size ≤ sb; omega
        have HSR : Hid (¬ rb ∈ [sb]) := by have := Br.lt; show ¬ rb ∈ [sb]; simp; omega
        have HSM : Hid (¬ mb ∈ [sb]) := by have := M.lt; show ¬ mb ∈ [sb]; simp; omega
        have Bs : Blk w6 sb (feC (wsum x d y N 0)) 24 := Bs0.to z32_ws
        replace C5 := C5.trans1 k6
        replace Br := Br.chg k6 (by simp)
        replace M := M.chg k6 (by simp)
        clear k6 hsb Bs0 HC2
        go_loopw [23] (fun t wr => ∃ i : Nat, i ≤ N ∧ t = .int .i64 (i : Int) ∧ Blk wr sb (feC (wsum x d y N i)) 24 ∧ Mp wr mb N d (wtv x d N) ∧ Blk wr rb z32 24 ∧ Chg w wr []) (fun t _ => (N - intOf t).toNat)
        case atStart => exact ⟨0, Nat.zero_le _, rfl, Bs, M, Br, C5⟩
        case round =>
          clear Bs M Br C5
          obtain ⟨i, hi, rfl, Bs, M, Br, C⟩ := hrel
          by_cases h : i < N
          · have hI : (i : Int) < (N : Int) := by omega
            have hI0 : (0 : Int) ≤ (i : Int) := by omega
            have e1 : IntKind.i64.wrap ((i : Int) + 1) = (i : Int) + 1 := by have := HN.out; rw [IntKind.wrap_i64]; omega
            have HMs : Hid _ := mN N i h
            have HI : Hid (i < N) := h
            have HRY : Hid (R256 (y i)) := HRy.out i h
            obtain ⟨gp, o, rfl, hg, hF⟩ := HP.out i h
            have hF' : wr.rangeAt gp (o + i * 33) (.int .i64 (d i) :: feL (y i)) := rangeAt_chg hF hg C (by simp)
            have HCz : Hid (w.heap.size ≤ wr.heap.size) := C.size
            have HGl : Hid (sb < wr.heap.size ∧ mb < wr.heap.size ∧ rb < wr.heap.size) := ⟨Bs.lt, M.lt, Br.lt⟩
            clear hF hg h hi
            go_upto_region 9 with (first
              | (refine load_sh rfl _ rfl gp (o + i * 33) (d i) (y i) rfl hF' ?_)
              | (refine alloc_w rfl 28 rfl (.agg zSh) zeroSh zSh rfl ?_; intro hb w1 hhb B0 k1)
              | (refine store_w B0 rfl 28 _ _ (shC (d i) (y i)) rfl rfl rfl shInfo rfl (shC_one _ _) ?_; intro wq Bh k2))
            have HHB : Hid (w.heap.size ≤ hb) := by have := HCz.out; show w.heap.size ≤ hb; omega
            replace C := (C.trans1 k1).new k2 HHB.out
            replace Bs := (Bs.chg k1 (by simp)).chg k2 (by have := HGl.out; simp; omega)
            replace M := (M.chg k1 (by simp)).chg k2 (by have := HGl.out; simp; omega)
            replace Br := (Br.chg k1 (by simp)).chg k2 (by have := HGl.out; simp; omega)
            have hcc := sh_id Bh
            have hvv := sh_val Bh
            clear k1 k2 B0 hhb hF' HGl Bh
            go_wp2_with (first
              | (with_reducible refine look_m ?_ (.tmp 27) (.tmp 29) ?_ mb N i d (wtv x d N) ?_ ?_ M HDI.out HI.out ?_
                 · rfl
                 · rfl
                 · rfl
                 · rfl)
              | (with_reducible refine load_sc ?_ (.tmp 31) ?_ hb 1 (y i) ?_ hvv ?_
                 · rfl
                 · rfl
                 · rfl)
              | (with_reducible refine load_b Bs 24 (.tmp 8) Tryz.underlying24 ?_ ?_ ?_ ?_ ?_ ?_
                 · rfl
                 · rfl
                 · rfl
                 · rfl
                 · exact feInfo))
            refine (MulAdd_o _ _ _ (r256_rl (wtv_rl x d N i)) HRY.out (r256_rl (wsum_rl x d y N i)) _).mono ?_
            rintro e w5 ⟨rfl, k⟩
            replace C := C.trans1 k
            replace Bs := Bs.chg k (by simp)
            replace M := M.chg k (by simp)
            replace Br := Br.chg k (by simp)
            clear k hcc hvv
            go_wp2_with (refine store_w Bs rfl 24 _ _ (feC (wsum x d y N (i + 1))) rfl rfl rfl feInfo rfl (feC_one _) ?_; intro w7 B7 k7)
            replace C := C.new k7 HSB.out
            replace M := M.chg k7 HSM.out
            replace Br := Br.chg k7 HSR.out
            clear k7 Bs
            go_roundw
            case rel => exact ⟨i + 1, HI.out, by go_num, B7, M, Br, C⟩
            case measure => exact HMs.out
          · obtain rfl : N = i := by omega
            have hI : ¬ (N : Int) < (N : Int) := by omega
            clear h hi M
            go_wp2_with (first
              | (with_reducible refine load_b Bs 24 (.tmp 8) Tryz.underlying24 ?_ ?_ ?_ ?_ ?_ ?_
                 · rfl
                 · rfl
                 · rfl
                 · rfl
                 · exact feInfo)
              | (refine store_w Br rfl 24 _ _ (feC (wsum x d y N N)) rfl rfl rfl feInfo rfl (feC_one _) ?_; intro w7 B7 k7))
            exact bodyPost_ret (results_cell_tmp Tryz.results7 _ _ rb 24 (feC (wsum x d y N N)) _ _ rfl rfl B7 Tryz.underlying24 rfl feInfo) rfl ⟨by rw [HV2.out]; rfl, C.new k7 HRB.out⟩
      exact AllReadyH.nil
    exact AllReadyH.nil
  · have HV2 : Hid (V = 0) := by show V = _; rw [HV.out, if_neg h]
    go_wp2_with (first
      | (refine gl_build (by rfl) 24 #[] rfl (feC 0) (by kernel_rfl) ?_)
      | (refine store_w Br rfl 24 _ _ (feC 0) rfl rfl rfl feInfo rfl (feC_one _) ?_; intro w7 B7 k7))
    exact bodyPost_ret (results_cell_tmp Tryz.results7 _ _ rb 24 (feC 0) _ _ rfl rfl B7 Tryz.underlying24 rfl feInfo) rfl ⟨by rw [HV2.out]; rfl, HC2.out.new k7 HRB.out⟩
end Go.Proofs.YtledggdoehnlcaaGreat
