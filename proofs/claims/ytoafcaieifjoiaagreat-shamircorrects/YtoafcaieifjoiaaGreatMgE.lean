/- Joined: ShP, Sh10, Sh11, Sh12, Sh13, ShN, ShAl, ShAlW. -/
import Derived.Test.YtoafcaieifjoiaaGreatSh9
import Derived.WalkMore
import Derived.Lib.BufferMore
/- The first rows of a block of scalars. -/
set_option linter.unusedVariables false
set_option linter.unusedSimpArgs false
set_option linter.unnecessarySimpa false
namespace Go.Proofs.YtoafcaieifjoiaaGreat
open Go.RowKit N

/-- Block o begins with N scalars g. -/
def Sp (w : World) (o N : Nat) (g : Nat → Int) : Prop := ∃ cur : Array Value, Blk w o cur 24 ∧ N * 32 ≤ cur.size ∧ ∀ i j, i < N → j < 32 → cur[i * 32 + j]? = (feL (g i))[j]?
theorem Sp.chg {w w' : World} {o N : Nat} {g : Nat → Int} {l : List Nat} (h : Sp w o N g) (hc : Chg w w' l) (ho : ¬ o ∈ l) : Sp w' o N g := by
  obtain ⟨cur, h1, h2, h3⟩ := h
  exact ⟨cur, h1.chg hc ho, h2, h3⟩
theorem Sp.congr {w : World} {o N : Nat} {g g' : Nat → Int} (h : Sp w o N g) (hg : ∀ j, j < N → g j = g' j) : Sp w o N g' := by
  obtain ⟨cur, h1, h2, h3⟩ := h
  exact ⟨cur, h1, h2, fun i j hi hj => by rw [h3 i j hi hj, hg i hi]⟩
theorem Sp.lt {w : World} {o N : Nat} {g : Nat → Int} (h : Sp w o N g) : o < w.heap.size := by
  obtain ⟨cur, h1, _⟩ := h
  exact h1.lt
theorem Sp.drew {w : World} {o N : Nat} {g : Nat → Int} (h : Sp w o N g) : Sp w.drew o N g := h
theorem Sp.range {w : World} {o N : Nat} {g : Nat → Int} (h : Sp w o N g) {i : Nat} (hi : i < N) : w.rangeAt o (i * 32) (feL (g i)) := fun j v hv => by
  obtain ⟨cur, h1, h2, h3⟩ := h
  have hj : j < 32 := by have := (List.getElem?_eq_some_iff.1 hv).1; rwa [feL_len] at this
  rw [h1.cell, h3 i j hi hj, hv]
theorem Sb.sp {w : World} {o N : Nat} {g : Nat → Int} (h : Sb w o N g) : Sp w o N g := ⟨_, h, by rw [List.size_toArray, rL_len]; exact Nat.le_refl _, fun i j hi hj => by rw [List.getElem?_toArray, rL_get (sF_ok N g) hi hj]; rfl⟩
theorem OwnR.sp {w : World} {base : Nat} {a n c : Nat} {F : Nat → List Value} {g : Nat → Int} (h : OwnR w base 24 32 (.slice (some ⟨a, 0, none⟩) n c) n F) (hg : ∀ i, i < n → F i = feL (g i)) : Sp w a n g := by
  obtain ⟨⟨_, h1⟩, hF⟩ := h
  rcases h1 with ⟨h1, _⟩ | ⟨g', cap, cur, e, hg', hh, hc, hm, hs, ht⟩
  · cases h1
  · simp only [Value.slice.injEq, Option.some.injEq, Addr.mk.injEq] at e
    obtain ⟨⟨rfl, _⟩, _, rfl⟩ := e
    refine ⟨cur, hh, by rw [hs]; exact Nat.mul_le_mul_right 32 hc, fun i j hi hj => ?_⟩
    have e2 := congrArg (fun l => l[i * 32 + j]?) ht
    rw [List.getElem?_take_of_lt (row_lt hi hj), rL_get hF hi hj, hg i hi, Array.getElem?_toList] at e2
    exact e2
theorem wp_store_sp {w : World} {op : Oper} {a : Act} {K : Act → World → Prop} {Q : Exit → Act → World → Prop} (x y : Operand) (ho : op.op = .store 24 x y) (b N i : Nat) (g : Nat → Int) (X : Int) (hx : a.eval x = .pointer (some ⟨b, i * 32, none⟩)) (hy : a.eval y = fe X) (hb : Sp w b N g) (hi : i < N)
    (h : ∀ w', Sp w' b N (upS g i X) → Chg w w' [b] → K (a.put op.dst undef) w') : op.wp Tryz.prog a w K Q := by
  obtain ⟨cur, h1, h2, h3⟩ := hb
  have hl : i * 32 + 32 ≤ cur.size := by omega
  refine wp_store_mid 24 x y ho b (i * 32) (feC X) hx hy (h1.there (by rw [feC_size]; exact hl)) feInfo (feC_one X) (h _ ⟨_, h1.setCells (i * 32) (feL X), ?_, fun q j hq hj => ?_⟩ ((Chg.refl w [b]).setCellsIn (by simp) (i * 32) (feL X)))
  · rw [setL_size]; exact h2
  · rw [setL_get]
    unfold upS
    by_cases hqi : q = i
    · subst hqi
      rw [if_pos ⟨by omega, by rw [feL_len]; omega, by omega⟩, if_pos rfl, Nat.add_sub_cancel_left]
    · rw [if_neg (by rw [feL_len]; omega), if_neg hqi]
      exact h3 q j hq hj
end Go.Proofs.YtoafcaieifjoiaaGreat

/- shamir.clearColumn, eliminate: one row. -/
namespace Go.Proofs.YtoafcaieifjoiaaGreat
open Go.RowKit N

set_option maxHeartbeats 16000000 in
set_option maxRecDepth 100000 in
theorem clearColumn_1 (rb g W Cp : Nat) (h0 : 0 < W) (hW : W ≤ 255) (hCp : W ≤ Cp) (f : Nat → Int) (hf : ∀ j, j < W → R256 (f j)) (hnz : eqn (cn (f 0)) 0 = false) (hne : ¬ rb = g) (w : World) (hr : Blk w rb #[.slice (some ⟨g, 0, none⟩) W Cp] 22) (hS : Sp w g W f) :
    Calls Tryz.prog 141 #[.slice (some ⟨rb, 0, none⟩) 1 1, .int .i64 0] w fun e w' => e = .returned (.tuple #[]) ∧ Sp w' g W (fun j => ml (f j) (iv (f 0))) ∧ Chg w w' [g] := by
  have HW : Hid (0 < W ∧ W ≤ 255) := ⟨h0, hW⟩
  have HF : Hid (∀ j, j < W → R256 (f j)) := hf
  have HNZ : Hid (eqn (cn (f 0)) 0 = false) := hnz
  have HNE : Hid (¬ rb = g) := hne
  have hc : w.cell? ⟨rb, 0, none⟩ = some (.slice (some ⟨g, 0, none⟩) W Cp) := by rw [hr.cell]; rfl
  have hWi : (0 : Int) < (W : Int) := by omega
  have hWi2 : (0 : Int) ≤ (W : Int) := by omega
  have hcap : ¬ Cp = 0 := by omega
  have hcapi : (0 : Int) ≤ (Cp : Int) := by omega
  have hWCp : (W : Int) ≤ (Cp : Int) := by omega
  have hrg : w.rangeAt g 0 (feL (f 0)) := by have := hS.range h0; rwa [Nat.zero_mul] at this
  clear h0 hW hf hnz hne
  go_enter Tryz.func141, Tryz.ntmps141
  go_wp2_with (refine load_sc rfl _ rfl g 0 (f 0) rfl hrg ?_)
  refine (Invert_o (f 0) (HF.out 0 HW.out.1) HNZ.out w).mono ?_
  rintro e w1 ⟨rfl, k⟩
  obtain ⟨V, hV⟩ : ∃ V, iv (f 0) = V := ⟨_, rfl⟩
  have HRV : Hid (R256 V) := by show R256 V; rw [← hV]; exact r256_rl (pw_rl _ _)
  have HV : Hid (iv (f 0) = V) := hV
  rw [hV]
  clear hV
  have S1 := hS.chg k (by simp)
  have R1 := hr.chg k (by simp)
  have HLt : Hid (g < w1.heap.size ∧ rb < w1.heap.size) := ⟨S1.lt, R1.lt⟩
  have HCz : Hid (w.heap.size ≤ w1.heap.size) := k.size
  clear hc hrg
  go_wp2_with (first
    | (refine alloc_w rfl 24 rfl (.agg z32) zeroSc z32 rfl ?_; intro ib w2 hib B0 k1)
    | (refine store_w B0 rfl 24 _ _ (feC V) rfl rfl rfl feInfo rfl (feC_one _) ?_; intro w3 Bi k2))
  have HIG : Hid (¬ ib ∈ [g]) := by have := HLt.out; show ¬ ib ∈ [g]; simp; omega
  have HRG : Hid (¬ rb ∈ [g]) := by have := HNE.out; show ¬ rb ∈ [g]; simp; omega
  replace S1 := (S1.chg k1 (by simp)).chg k2 (by have := HLt.out; simp; omega)
  replace R1 := (R1.chg k1 (by simp)).chg k2 (by have := HLt.out; simp; omega)
  have C : Chg w w3 [g] := ((k.trans1 k1).new k2 (by have := HCz.out; omega)).wide
  have S2 : Sp w3 g W (mq f (fun j => ml (f j) V) 0) := S1.congr (fun j _ => (if_neg (by omega)).symm)
  clear k k1 k2 B0 hib S1 HLt HCz HNZ hS hr
  go_loopw [28] (fun t wr => ∃ i : Nat, i ≤ W ∧ t = .int .i64 (i : Int) ∧ Sp wr g W (mq f (fun j => ml (f j) V) i) ∧ Blk wr ib (feC V) 24 ∧ Blk wr rb #[.slice (some ⟨g, 0, none⟩) W Cp] 22 ∧ Chg w wr [g]) (fun t _ => (W - intOf t).toNat)
  case atStart => exact ⟨0, Nat.zero_le _, rfl, S2, Bi, R1, C⟩
  case round =>
    clear S2 Bi R1 C
    obtain ⟨i, hi, rfl, Sq, Bi, Br, C⟩ := hrel
    by_cases h : i < W
    · have hI : (i : Int) < (W : Int) := by omega
      have hI0 : (0 : Int) ≤ (i : Int) := by omega
      have e1 : IntKind.i64.wrap ((i : Int) + 1) = (i : Int) + 1 := by have := HW.out; rw [IntKind.wrap_i64]; omega
      have HMs : Hid _ := mN W i h
      have HI : Hid (i < W) := h
      have HRi : Hid (R256 (f i)) := HF.out i h
      have HMQ : Hid (mq f (fun j => ml (f j) V) i i = f i) := mq_at _ _ i
      clear h hi
      go_wp2_with fail
      refine wp_region_held_drew (S := fun w' => Chg wr w' [g]) (by kernel_rfl) ((Chg.refl wr _).drew) (fun hHeld => ?_)
      replace Sq : Sp wr.drew g W (mq f (fun j => ml (f j) V) i) := Sq
      replace C := C.drew
      refine tv (v := ?_) 0 (some 31) rfl (by kernel_rfl) (fun _ _ _ h => h) rfl rfl (fun w hSw => ?_) hHeld ?_; rotate_left; (· (go_simp; try with_reducible rfl)); try simp only [Act.put, sA1, sA2, sA3]
      refine tv (v := ?_) 1 (some 32) rfl (by kernel_rfl) (fun _ _ _ h => h) rfl rfl (fun w hSw => ?_) hHeld ?_; rotate_left; (· (go_simp; try with_reducible rfl)); try simp only [Act.put, sA1, sA2, sA3]
      refine tv (v := ?_) 2 (some 33) rfl (by kernel_rfl) (fun _ _ _ h => h) rfl rfl (fun w hSw => ?_) hHeld ?_; rotate_left; (· (go_simp; try with_reducible rfl)); try simp only [Act.put, sA1, sA2, sA3]
      refine tv (v := ?_) 3 (some 34) rfl (by kernel_rfl) (fun _ _ _ h => h) rfl rfl (fun w hSw => ?_) hHeld ?_; rotate_left; (· (go_simp; try with_reducible rfl)); try simp only [Act.put, sA1, sA2, sA3]
      refine tv (v := ?_) 4 (some 35) rfl (by kernel_rfl) (fun _ _ _ h => h) rfl rfl (fun w hSw => ?_) hHeld ?_; rotate_left; (· (go_simp; try with_reducible rfl)); try simp only [Act.put, sA1, sA2, sA3]
      refine take_load 6 (some 37) (feC V) rfl (by kernel_rfl) (by kernel_rfl) (by kernel_rfl) (fun _ _ _ h => h) rfl rfl 24 _ rfl ib rfl 24 _ (fun w h => Bi.chg h HIG.out) Tryz.underlying24 rfl (by first | exact feInfo | kernel_rfl) hHeld ?_
      try simp only [Act.put, sA1, sA2, sA3]
      refine wpAnyH_ready (rs := [5]) (by kernel_rfl) (by simp) ?_
      refine AllReadyH.cons (o := _) rfl (fun K hK => ?_) ?_
      ·
        rw [if_pos (by rfl)]
        refine wp_load_mid 24 _ rfl g (i * 32) rfl (feL (f i)) _ (HMQ.out ▸ Sq.range HI.out) Tryz.underlying24 rfl feInfo ?_
        refine hK.out _ _ (hHeld) (fun hHeld => ?_)
        clear hK K
        try simp only [Act.put, sA1, sA2, sA3]
        refine wpAnyH_ready (rs := [7]) (by kernel_rfl) (by simp) ?_
        refine AllReadyH.cons (o := _) rfl (fun K hK => ?_) ?_
        ·
          go_simp
          refine (Mul_o _ _ HRi.out HRV.out _).mono ?_
          rintro e w5 ⟨rfl, k⟩
          replace Sq := Sq.chg k (by simp)
          replace C := C.trans1 k.wide
          go_wp2_with fail
          refine hK.out _ _ (hHeld.trans1 k.wide) (fun hHeld => ?_)
          clear hK K
          try simp only [Act.put, sA1, sA2, sA3]
          clear k
          refine tv (v := ?_) 8 (some 39) rfl (by kernel_rfl) (fun _ _ _ h => h) rfl rfl (fun w hSw => ?_) hHeld ?_; rotate_left; (· (go_simp; try with_reducible rfl)); try simp only [Act.put, sA1, sA2, sA3]
          refine wpAnyH_ready (rs := [9]) (by kernel_rfl) (by simp) ?_
          refine AllReadyH.cons (o := _) rfl (fun K hK => ?_) ?_
          ·
            rw [if_pos (by rfl)]
            refine wp_store_sp _ _ rfl g W i _ _ rfl rfl Sq HI.out ?_
            intro w6 S6 k6
            refine hK.out _ _ (hHeld.trans1 k6) (fun hHeld => ?_)
            clear hK K
            try simp only [Act.put, sA1, sA2, sA3]
            refine wpAnyH_done (by kernel_rfl) ?_ _
            replace C := C.trans1 k6
            replace Br := Br.chg hHeld HRG.out
            replace Bi := Bi.chg hHeld HIG.out
            clear Sq k6 hHeld
            go_wp2_with fail
            go_roundw
            case rel => exact ⟨i + 1, HI.out, by go_num, S6.congr (fun j _ => mq_step f (fun j => ml (f j) V) i j), Bi, Br, C⟩
            case measure => exact HMs.out
          exact AllReadyH.nil
        exact AllReadyH.nil
      exact AllReadyH.nil
    · obtain rfl : W = i := by omega
      have hI : ¬ (W : Int) < (W : Int) := by omega
      have S3 : Sp wr g W (fun j => ml (f j) (iv (f 0))) := by rw [HV.out]; exact Sq.congr (fun j hj => if_pos hj)
      have hc : wr.cell? ⟨rb, 0, none⟩ = some (.slice (some ⟨g, 0, none⟩) W Cp) := by rw [Br.cell]; rfl
      clear Sq h hi HV HRV HF
      go_wp2_with fail
      go_loopw [43] (fun t wr2 => wr2 = wr ∧ (t = .int .i64 0 ∨ t = .int .i64 1)) (fun t _ => (1 - intOf t).toNat)
      case atStart => exact ⟨rfl, Or.inl rfl⟩
      case round =>
        obtain ⟨rfl, rfl | rfl⟩ := hrel
        · go_wp2_with fail
          exact ⟨⟨trivial, Or.inr rfl⟩, by simp [intOf]⟩
        · go_wp2_with fail
          go_end0
          exact ⟨rfl, S3, C⟩
theorem wp_store_rows {w : World} {op : Oper} {a : Act} {K : Act → World → Prop} {Q : Exit → Act → World → Prop} (x y : Operand) (ho : op.op = .store 22 x y) (b : Nat) (v : Value) (hx : a.eval x = .pointer (some ⟨b, 0, none⟩)) (hy : a.eval y = v) (hb : Blk w b #[v] 22) {p : Option Addr} {n c : Nat} (hv : v = .slice p n c)
    (h : ∀ w', Blk w' b #[v] 22 → Chg w w' [b] → K (a.put op.dst undef) w') : op.wp Tryz.prog a w K Q := by
  subst hv
  have hc : w.cell? ⟨b, 0, none⟩ = some (.slice p n c) := by rw [hb.cell]; rfl
  have hz : w.frozen? ⟨b, 0, none⟩ = false := hb.frozen 0
  have hI : (Tryz.prog.info? 22).map (·.size) = some 1 := by kernel_rfl
  have hr : (Instr.storeAt 22 (.pointer (some ⟨b, 0, none⟩)) (.slice p n c)).run Tryz.prog w = .ok () (w.setCell ⟨b, 0, none⟩ (.slice p n c)) := by
    cases hi : Tryz.prog.info? 22 with
    | none => rw [hi] at hI; cases hI
    | some i =>
      rw [hi] at hI
      have hs : i.size = 1 := by simpa using hI
      simp [go_sem, hc, hz, hi, hs]
  unfold Oper.wp execOp
  simp only [ho, hx, hy, Sem.run_bind, hr, Sem.run_pure, Result.andThen_ok]
  exact h _ ((hb.setCell 0 _).to (by simp)) ((Chg.refl w [b]).setIn (by simp) 0 _)
set_option maxHeartbeats 16000000 in
set_option maxRecDepth 100000 in
theorem eliminate_1n (rb g W Cp : Nat) (h2 : 2 ≤ W) (hW : W ≤ 255) (hCp : W ≤ Cp) (f : Nat → Int) (hf : ∀ j, j < W → R256 (f j)) (hz : eqn (cn (f 0)) 0 = false) (hne : ¬ rb = g) (w : World) (hr : Blk w rb #[.slice (some ⟨g, 0, none⟩) W Cp] 22) (hS : Sp w g W f) :
    Calls Tryz.prog 116 #[.slice (some ⟨rb, 0, none⟩) 1 1, .int .i64 (W : Int)] w fun e w' => e = .returned (.int .i64 1) ∧ Sp w' g W (fun j => ml (f j) (iv (f 0))) ∧ Blk w' rb #[.slice (some ⟨g, 0, none⟩) W Cp] 22 ∧ Chg w w' [rb, g] := by
  have HW : Hid (0 < W ∧ W ≤ 255) := ⟨by omega, hW⟩
  have HFF : Hid (∀ j, j < W → R256 (f j)) := hf
  have HF : Hid (R256 (f 0)) := hf 0 (by omega)
  have HZ : Hid (eqn (cn (f 0)) 0 = false) := hz
  have HNE : Hid (¬ rb = g) := hne
  have HCp : Hid (W ≤ Cp) := hCp
  have HGR : Hid (¬ g ∈ [rb]) := by show ¬ g ∈ [rb]; simp; omega
  have HRG : Hid (¬ rb ∈ [g]) := by show ¬ rb ∈ [g]; simp; omega
  have hWi : (0 : Int) < (W : Int) := by omega
  have hWN : 0 < W := by omega
  have hW1 : (1 : Int) < (W : Int) := by omega
  have hW1N : 1 < W := by omega
  clear h2 hW hf hz hne
  go_enter Tryz.func116, Tryz.ntmps116
  go_wp2_with fail
  go_step3
  go_wp2_with fail
  go_step3
  go_wp2_with fail
  go_loopw [5] (fun t wo => (t = .int .i64 0 ∧ wo = w) ∨ (t = .int .i64 1 ∧ Sp wo g W (fun j => ml (f j) (iv (f 0))) ∧ Blk wo rb #[.slice (some ⟨g, 0, none⟩) W Cp] 22 ∧ Chg w wo [rb, g])) (fun t _ => (1 - intOf t).toNat)
  case atStart => exact Or.inl ⟨rfl, rfl⟩
  case round =>
    rcases hrel with ⟨rfl, rfl⟩ | ⟨rfl, S, B, C⟩
    · go_wp2_with fail
      have hc : wr.cell? ⟨rb, 0, none⟩ = some (.slice (some ⟨g, 0, none⟩) W Cp) := by rw [hr.cell]; rfl
      have hrg : wr.rangeAt g 0 (feL (f 0)) := by have := hS.range HW.out.1; rwa [Nat.zero_mul] at this
      go_loopw [6] (fun t wi => t = .int .i64 0 ∧ wi = wr) (fun _ _ => 0)
      case atStart => exact ⟨rfl, rfl⟩
      case round =>
        obtain ⟨rfl, rfl⟩ := hrel
        go_wp2_with (refine load_sc rfl _ rfl g 0 (f 0) rfl hrg ?_)
        refine (IsZero_is (f 0) HF.out false HZ.out wr).mono ?_
        rintro e w2 ⟨rfl, k⟩
        have hc2 : w2.cell? ⟨rb, 0, none⟩ = some (.slice (some ⟨g, 0, none⟩) W Cp) := cell_chg hc hr.lt k (by simp)
        have B2 := hr.chg k (by simp)
        have S2 := hS.chg k (by simp)
        have hz2 : w2.frozen? ⟨rb, 0, none⟩ = false := B2.frozen 0
        go_wp2_with fail
        refine wp_region_held_drew (S := fun w' => Blk w' rb #[.slice (some ⟨g, 0, none⟩) W Cp] 22 ∧ Chg w2 w' [rb]) (by kernel_rfl) (⟨B2.drew, (Chg.refl w2 _).drew⟩) (fun hHeld => ?_)
        refine tv (v := ?_) 0 (some 28) rfl (by kernel_rfl) (fun _ _ _ h => h) rfl rfl (fun w hSw => ?_) hHeld ?_; rotate_left; (· (go_simp; try with_reducible rfl)); try simp only [Act.put, sA1, sA2, sA3]
        refine tv (v := ?_) 1 (some 29) rfl (by kernel_rfl) (fun _ _ _ h => h) rfl rfl (fun w hSw => ?_) hHeld ?_; rotate_left; (· (go_simp; try with_reducible rfl)); try simp only [Act.put, sA1, sA2, sA3]
        refine tv (v := ?_) 2 (some 30) rfl (by kernel_rfl) (fun _ _ _ h => h) rfl rfl (fun w hSw => ?_) hHeld ?_; rotate_left; (· (go_simp; try with_reducible rfl)); try simp only [Act.put, sA1, sA2, sA3]
        refine tv (v := ?_) 3 (some 31) rfl (by kernel_rfl) (fun _ _ _ h => h) rfl rfl (fun w hSw => ?_) hHeld ?_; rotate_left; (· (go_simp; try with_reducible rfl)); try simp only [Act.put, sA1, sA2, sA3]
        refine tv (v := ?_) 4 (some 32) rfl (by kernel_rfl) (fun _ _ _ h => h) rfl rfl (fun w hSw => ?_) hHeld ?_; rotate_left; (· (go_simp; try with_reducible rfl)); try simp only [Act.put, sA1, sA2, sA3]
        refine tv (v := ?_) 5 (some 33) rfl (by kernel_rfl) (fun _ _ _ h => h) rfl rfl (fun w hSw => ?_) hHeld ?_; rotate_left; (· (go_simp; try with_reducible rfl)); try simp only [Act.put, sA1, sA2, sA3]
        refine tv (v := ?_) 6 (some 34) rfl (by kernel_rfl) (fun _ _ _ h => h) rfl rfl (fun w hSw => ?_) hHeld ?_; rotate_left; (· (go_simp; try with_reducible rfl)); try simp only [Act.put, sA1, sA2, sA3]
        refine tv (v := (.slice (some ⟨g, 0, none⟩) W Cp)) 7 (some 35) rfl (by kernel_rfl) (fun _ _ _ h => h) rfl rfl (fun w hSw => ?_) hHeld ?_
        · have hcc : w.cell? ⟨rb, 0, none⟩ = some (.slice (some ⟨g, 0, none⟩) W Cp) := by rw [hSw.1.cell]; rfl
          (go_simp; try with_reducible rfl)
        try simp only [Act.put, sA1, sA2, sA3]
        refine tv (v := ?_) 8 (some 36) rfl (by kernel_rfl) (fun _ _ _ h => h) rfl rfl (fun w hSw => ?_) hHeld ?_; rotate_left; (· (go_simp; try with_reducible rfl)); try simp only [Act.put, sA1, sA2, sA3]
        refine tv (v := ?_) 9 (some 37) rfl (by kernel_rfl) (fun _ _ _ h => h) rfl rfl (fun w hSw => ?_) hHeld ?_; rotate_left; (· (go_simp; try with_reducible rfl)); try simp only [Act.put, sA1, sA2, sA3]
        refine tv (v := ?_) 10 (some 38) rfl (by kernel_rfl) (fun _ _ _ h => h) rfl rfl (fun w hSw => ?_) hHeld ?_; rotate_left; (· (go_simp; try with_reducible rfl)); try simp only [Act.put, sA1, sA2, sA3]
        refine tv (v := (.slice (some ⟨g, 0, none⟩) W Cp)) 11 (some 39) rfl (by kernel_rfl) (fun _ _ _ h => h) rfl rfl (fun w hSw => ?_) hHeld ?_
        · have hcc : w.cell? ⟨rb, 0, none⟩ = some (.slice (some ⟨g, 0, none⟩) W Cp) := by rw [hSw.1.cell]; rfl
          (go_simp; try with_reducible rfl)
        try simp only [Act.put, sA1, sA2, sA3]
        refine tv (v := ?_) 12 (some 40) rfl (by kernel_rfl) (fun _ _ _ h => h) rfl rfl (fun w hSw => ?_) hHeld ?_; rotate_left; (· (go_simp; try with_reducible rfl)); try simp only [Act.put, sA1, sA2, sA3]
        refine wpAnyH_ready (rs := [13]) (by kernel_rfl) (by simp) ?_
        refine AllReadyH.cons (o := _) rfl (fun K hK => ?_) ?_
        ·
          rw [if_pos (by rfl)]
          refine wp_store_rows _ _ rfl rb _ rfl rfl hHeld.1 rfl ?_
          intro w6 B6 k6
          refine hK.out _ _ (⟨B6, hHeld.2.trans1 k6⟩) (fun hHeld => ?_)
          clear hK K
          try simp only [Act.put, sA1, sA2, sA3]
          clear k6 B6
          refine tv (v := ?_) 14 (some 41) rfl (by kernel_rfl) (fun _ _ _ h => h) rfl rfl (fun w hSw => ?_) hHeld ?_; rotate_left; (· (go_simp; try with_reducible rfl)); try simp only [Act.put, sA1, sA2, sA3]
          refine wpAnyH_ready (rs := [15]) (by kernel_rfl) (by simp) ?_
          refine AllReadyH.cons (o := _) rfl (fun K hK => ?_) ?_
          ·
            rw [if_pos (by rfl)]
            refine wp_store_rows _ _ rfl rb _ rfl rfl hHeld.1 rfl ?_
            intro w6 B6 k6
            refine hK.out _ _ (⟨B6, hHeld.2.trans1 k6⟩) (fun hHeld => ?_)
            clear hK K
            try simp only [Act.put, sA1, sA2, sA3]
            clear k6 B6
            refine wpAnyH_done (by kernel_rfl) ?_ _
            obtain ⟨B7, k7⟩ := hHeld
            replace S2 := S2.chg k7 HGR.out
            generalize w6 = w7 at *
            go_wp2_with fail
            refine (clearColumn_1 rb g W Cp HW.out.1 HW.out.2 HCp.out f HFF.out HZ.out HNE.out _ B7 S2).mono ?_
            rintro e w8 ⟨rfl, S8, k8⟩
            have B8 := B7.chg k8 HRG.out
            have C8 : Chg wr w8 [rb, g] := ((k.wide.trans1 (k7.incl (by simp))).trans1 (k8.incl (by simp)))
            clear k7 k8 B7 S2 k
            go_wp2_with fail
            go_roundw
            case rel => exact Or.inr ⟨rfl, S8, B8, C8⟩
            case measure => simp [intOf]
          exact AllReadyH.nil
        exact AllReadyH.nil
    · go_wp2_with fail
      go_loopw [6] (fun t wi => t = .int .i64 1 ∧ wi = wr) (fun _ _ => 0)
      case atStart => exact ⟨rfl, rfl⟩
      case round =>
        obtain ⟨rfl, rfl⟩ := hrel
        go_wp2_with fail
        rw [Exit.noGoto_ret]
        go_ret
        exact ⟨rfl, S, B, C⟩
end Go.Proofs.YtoafcaieifjoiaaGreat

/- slices.Clone of scalars; shamir.locate where one share may be wrong. -/
namespace Go.Proofs.YtoafcaieifjoiaaGreat
open Go.RowKit N

set_option maxHeartbeats 4000000 in
set_option maxRecDepth 100000 in
theorem CloneSc_s (g o n c : Nat) (f : Nat → Nat) (w : World) (h0 : 0 < n) (hn : n ≤ 1000000) (hL : Ls w (.slice (some ⟨g, o, none⟩) n c) n f) :
    Calls Tryz.prog 115 #[.slice (some ⟨g, o, none⟩) n c] w fun e w' => ∃ a cap, e = .returned (.slice (some ⟨a, 0, none⟩) n cap) ∧ n ≤ cap ∧ w.heap.size ≤ a ∧ Sp w' a n (fun j => ((f j : Nat) : Int)) ∧ Chg w w' [] := by
  have O0 : OwnR (w.alloc (.cells #[] 24)) w.heap.size 24 32 (.slice (some ⟨w.heap.size, 0, none⟩) 0 0) 0 (fun j => feL (f j : Nat)) := ⟨by
    have e : rL 32 0 (fun j => feL (f j : Nat)) = [] := List.eq_nil_of_length_eq_zero (by rw [rL_len])
    rw [e]
    exact World.ownsRow_made w #[] 0 (Nat.le_refl _) (by simp [maxLen]) (by simp), fun i hi => by omega⟩
  have K0 := (Chg.refl w []).alloc (.cells #[] 24)
  have R0 : Rl (w.alloc (.cells #[] 24)) 32 (.slice (some ⟨g, o, none⟩) n c) n (fun j => feL (f j : Nat)) := by
    obtain ⟨p, c', e, hp⟩ := (hL.chg0 K0).range
    refine ⟨fun i _ => fe_ok _, Or.inr ⟨g, o, c, rfl, ?_, ?_, ?_, fun i hi => ?_⟩⟩
    · rcases hL.2 with ⟨h1, _⟩ | ⟨_, _, cap, e2, h1, _⟩
      · omega
      · simp only [Value.slice.injEq] at e2; omega
    · rcases hL.2 with ⟨h1, _⟩ | ⟨_, _, cap, e2, h1, h2, _⟩
      · omega
      · simp only [Value.slice.injEq] at e2; omega
    · obtain ⟨g', o', h1, h2, _⟩ := hp 0 h0
      simp only [Value.slice.injEq] at e
      rw [← e.1] at h1
      simp only [Option.some.injEq, Addr.mk.injEq] at h1
      omega
    · obtain ⟨g', o', h1, h2, h3⟩ := hp i hi
      simp only [Value.slice.injEq] at e
      rw [← e.1] at h1
      simp only [Option.some.injEq, Addr.mk.injEq] at h1
      obtain ⟨rfl, rfl, _⟩ := h1
      exact h3
  have hq : ∀ W, (binOp .eql 22 (.slice (some ⟨g, o, none⟩) n c) (.slice none 0 0)).run Tryz.prog W = .ok (.bool false) W := fun W => Lib.run_eql_slice_some_nil W _ _ _ Tryz.underlying22
  obtain ⟨inf, hinf, hz, hs1, hs2⟩ := scRowL
  clear hL
  go_enter Tryz.func115, Tryz.ntmps115
  go_wp2_with (refine wpList_append_r rfl (.tmp 5) (.tmp 6) 22 rfl 24 inf (.agg z32) 32 32 Tryz.underlying22 hinf hz hs1 hs2 rfl (by omega) w.heap.size (.slice (some ⟨w.heap.size, 0, none⟩) 0 0) (.slice (some ⟨g, o, none⟩) n c) 0 n (fun j => feL (f j : Nat)) (fun j => feL (f j : Nat)) rfl rfl O0 R0 h0 (by omega) (by omega) (by simp) ?_; intro a cap w1 O1 q1 _ _; rw [Nat.zero_add] at O1; rw [Nat.zero_add])
  go_ret
  have O2 := O1.congr (G := fun j => feL (f j : Nat)) (fun j _ => by unfold catR; rw [if_neg (by omega), Nat.sub_zero])
  refine ⟨a, cap, rfl, ?_, ?_, O2.sp (fun _ _ => rfl), K0.trans q1 (by simp [ob, Value.ownBlock])⟩
  · obtain ⟨⟨_, h1⟩, _⟩ := O2
    rcases h1 with ⟨h1, _⟩ | ⟨_, _, _, e, _, _, h2, _⟩
    · cases h1
    · simp only [Value.slice.injEq] at e; omega
  · have := (ob_own O2 a (by simp [ob, Value.ownBlock])).1
    exact this
/-- make of one row. -/
theorem make_rows {w : World} {ops : Array Oper} {rest : List Oper} {op : Oper} {a : Act} {Q : Exit → Act → World → Prop} (hgd : op.guard = none) (x y : Operand) (ho : op.op = .makeSlice 30 x y) (hx : a.eval x = .int .i64 1) (hy : a.eval y = .int .i64 1)
    (h : ∀ g w', w.heap.size ≤ g → Blk w' g #[.slice none 0 0] 22 → Chg w w' [] → wpList Tryz.prog ops Q rest (a.put op.dst (.slice (some ⟨g, 0, none⟩) 1 1)) w') : wpList Tryz.prog ops Q (op :: rest) a w := by
  have hI : (Tryz.prog.info? 22).map (fun i => (i.zero, i.size, i.bytes)) = some (some (.slice none 0 0), 1, 24) := by kernel_rfl
  cases hi : Tryz.prog.info? 22 with
  | none => rw [hi] at hI; simp at hI
  | some i =>
    rw [hi] at hI
    simp at hI
    obtain ⟨hz, h1, h2⟩ := hI
    have hm := run_make (P := Tryz.prog) w 30 22 i (.slice none 0 0) Tryz.underlying30 hi hz .i64 .i64 1 1 (by omega) (by omega) (by rw [h2]; decide) (by omega)
    rw [h1] at hm
    refine wpList_plain hgd fun K hK => ?_
    unfold Oper.wp execOp
    simp only [ho, hx, hy, Sem.run_bind, hm, Sem.run_pure, Result.andThen_ok]
    exact hK _ _ (h _ _ (Nat.le_refl _) ((Blk.new w _ _).to (by kernel_rfl)) ((Chg.refl w []).alloc _))
theorem store_rows {w : World} {ops : Array Oper} {rest : List Oper} {op : Oper} {a : Act} {Q : Exit → Act → World → Prop} (hgd : op.guard = none) (x y : Operand) (ho : op.op = .store 22 x y) (b : Nat) (v old : Value) (hx : a.eval x = .pointer (some ⟨b, 0, none⟩)) (hy : a.eval y = v) (hb : Blk w b #[old] 22) {p : Option Addr} {n c : Nat} (hv : v = .slice p n c)
    (h : ∀ w', Blk w' b #[v] 22 → Chg w w' [b] → wpList Tryz.prog ops Q rest (a.put op.dst undef) w') : wpList Tryz.prog ops Q (op :: rest) a w := by
  subst hv
  have hc : w.cell? ⟨b, 0, none⟩ = some old := by rw [hb.cell]; rfl
  have hz : w.frozen? ⟨b, 0, none⟩ = false := hb.frozen 0
  have hI : (Tryz.prog.info? 22).map (·.size) = some 1 := by kernel_rfl
  have hr : (Instr.storeAt 22 (.pointer (some ⟨b, 0, none⟩)) (.slice p n c)).run Tryz.prog w = .ok () (w.setCell ⟨b, 0, none⟩ (.slice p n c)) := by
    cases hi : Tryz.prog.info? 22 with
    | none => rw [hi] at hI; cases hI
    | some i =>
      rw [hi] at hI
      have hs : i.size = 1 := by simpa using hI
      simp [go_sem, hc, hz, hi, hs]
  refine wpList_plain hgd fun K hK => ?_
  unfold Oper.wp execOp
  simp only [ho, hx, hy, Sem.run_bind, hr, Sem.run_pure, Result.andThen_ok]
  exact hK _ _ (h _ ((hb.setCell 0 _).to (by simp)) ((Chg.refl w [b]).setIn (by simp) 0 _))
/-- The locator of one place. -/
def lc1 (d y : Nat → Int) (N : Nat) : Nat → Int := fun j => if j = 0 then ng (ml (mo d y N 1) (iv (mo d y N 0))) else 1
theorem mo_rl (d y : Nat → Int) (N q : Nat) : RL (mo d y N q) := rl_mod _
set_option maxHeartbeats 16000000 in
set_option maxRecDepth 100000 in
theorem locate_2 (v : Value) (T : Nat) (d y : Nat → Int) (hN : T + 2 ≤ 255) (hd : ∀ i, i < T + 2 → 1 ≤ d i ∧ d i ≤ 255) (hz : ∀ i, i < T + 2 → ¬ LN ∣ (gpv d (T + 2) i).toNat) (hm : eqn (cn (mo d y (T + 2) 0)) 0 = false) (w : World) (hL : Hl w v (T + 2) d y) :
    Calls Tryz.prog 87 #[v, .int .i64 (T : Int), .int .i64 1] w fun e w' => ∃ g, w.heap.size ≤ g ∧ e = .returned (.tuple #[.slice (some ⟨g, 0, none⟩) 2 2, .bool true]) ∧ Sb w' g 2 (lc1 d y (T + 2)) ∧ Chg w w' [] := by
  obtain ⟨N, hNT⟩ : ∃ N, T + 2 = N := ⟨_, rfl⟩
  rw [hNT] at hN hd hz hm hL
  rw [hNT]
  have hK := momentsOf_s v N d y (by omega) hN hd hz 2 (by omega) w hL
  obtain ⟨p, cp, rfl, _⟩ := hL.1.form
  have HM0 : Hid (eqn (cn (mo d y N 0)) 0 = false) := hm
  have e0 : IntKind.i64.wrap ((N : Int) - (T : Int)) = 2 := by rw [IntKind.wrap_i64]; omega
  clear hL hd hz hm
  have HN : Hid (N ≤ 255 ∧ T + 2 = N) := ⟨hN, hNT⟩
  clear hN hNT
  have HB1 := built_1
  go_enter Tryz.func87, Tryz.ntmps87
  go_wp2_with fail
  refine hK.mono ?_
  rintro e w1 ⟨mb, hmb, rfl, Sm, C⟩
  clear hK
  have HMB : Hid (w.heap.size ≤ mb) := hmb
  clear hmb
  go_wp2_with (refine make_rows rfl _ _ rfl rfl rfl ?_; intro rb w2 hrb Br k2)
  have HRB : Hid (w.heap.size ≤ rb) := by have := C.size; show w.heap.size ≤ rb; omega
  have HRM : Hid (¬ mb = rb) := by have := Sm.lt; show ¬ mb = rb; omega
  replace C := C.trans1 k2
  replace Sm := Sm.chg k2 (by simp)
  clear k2 hrb
  go_loopw [26] (fun t wr => (t = .int .i64 0 ∧ Blk wr rb #[.slice none 0 0] 22 ∧ Sb wr mb 2 (mo d y N) ∧ Chg w wr []) ∨ (t = .int .i64 1 ∧ ∃ a cap, 2 ≤ cap ∧ w.heap.size ≤ a ∧ ¬ rb = a ∧ Blk wr rb #[.slice (some ⟨a, 0, none⟩) 2 cap] 22 ∧ Sp wr a 2 (mo d y N) ∧ Chg w wr [])) (fun t _ => (1 - intOf t).toNat)
  case atStart => exact Or.inl ⟨rfl, Br, Sm, C⟩
  case round =>
    clear Br Sm C
    rcases hrel with ⟨rfl, Br, Sm, C⟩ | ⟨rfl, a, cap, hcap, ha, hra, Br, Sa, C⟩
    · have LS := Sm.ls (by omega) (fun j _ => r256_rl (mo_rl d y N j)) (n := 2) (Nat.le_refl _)
      go_wp2_with fail
      refine (CloneSc_s mb 0 2 2 (nT (mo d y N)) wr (by omega) (by omega) LS).mono ?_
      rintro e w3 ⟨a, cap, rfl, hcap, ha, Sa, k⟩
      have HAR : Hid (¬ rb = a) := by have := Br.lt; show ¬ rb = a; omega
      have HA : Hid (w.heap.size ≤ a) := by have := C.size; show w.heap.size ≤ a; omega
      replace C := C.trans1 k
      replace Br := Br.chg k (by simp)
      have Sa2 : Sp w3 a 2 (mo d y N) := Sa.congr (fun j _ => nT_c _ _ (mo_rl d y N j).1)
      have HCA : Hid (2 ≤ cap) := hcap
      clear k LS Sm Sa ha hcap
      go_wp2_with (refine store_rows rfl (.tmp 39) (.tmp 38) rfl rb _ _ rfl rfl Br rfl ?_; intro w4 B4 k4)
      replace C := C.new k4 HRB.out
      replace Sa2 := Sa2.chg k4 (by have := HAR.out; simp; omega)
      clear k4 Br
      go_roundw
      case rel => exact Or.inr ⟨rfl, a, cap, HCA.out, HA.out, HAR.out, B4, Sa2, C⟩
      case measure => simp [intOf]
    · go_wp2_with fail
      refine (eliminate_1n rb a 2 cap (by omega) (by omega) hcap (mo d y N) (fun j _ => r256_rl (mo_rl d y N j)) HM0.out hra wr Br Sa).mono ?_
      rintro e w3 ⟨rfl, S3, B3, k⟩
      replace C := C.trans k (fun i hi => by simp at hi; rcases hi with rfl | rfl; exact Or.inr HRB.out; exact Or.inr ha)
      have HA : Hid (w.heap.size ≤ a ∧ 2 ≤ cap ∧ ¬ rb = a) := ⟨ha, hcap, hra⟩
      clear k Sa Br ha hcap hra
      go_wp2_with (refine make_w rfl _ _ rfl 2 (by omega) rfl rfl ?_; intro lb w4 hlb Sl k4)
      have HLB : Hid (w.heap.size ≤ lb) := by have := C.size; show w.heap.size ≤ lb; omega
      have HLA : Hid (¬ a = lb ∧ ¬ rb = lb) := by have := S3.lt; have := B3.lt; show ¬ a = lb ∧ ¬ rb = lb; omega
      replace C := C.trans1 k4
      replace S3 := S3.chg k4 (by simp)
      replace B3 := B3.chg k4 (by simp)
      clear k4 hlb
      obtain ⟨V, hV⟩ : ∃ V, ml (mo d y N 1) (iv (mo d y N 0)) = V := ⟨_, rfl⟩
      have HV : Hid (ml (mo d y N 1) (iv (mo d y N 0)) = V) := hV
      have HVR : Hid (R256 V) := by show R256 V; rw [← hV]; exact r256_mod _
      clear hV
      go_loopw [52] (fun t wr => (t = .int .i64 0 ∧ Sb wr lb 2 (fun _ => 0) ∧ Sp wr a 2 (fun j => ml (mo d y N j) (iv (mo d y N 0))) ∧ Blk wr rb #[.slice (some ⟨a, 0, none⟩) 2 cap] 22 ∧ Chg w wr []) ∨ (t = .int .i64 1 ∧ Sb wr lb 2 (upS (fun _ => 0) 0 (ng V)) ∧ Chg w wr [])) (fun t _ => (1 - intOf t).toNat)
      case atStart => exact Or.inl ⟨rfl, Sl, S3, B3, C⟩
      case round =>
        clear Sl S3 B3 C
        rcases hrel with ⟨rfl, Sl, S3, B3, C⟩ | ⟨rfl, Sl, C⟩
        · have hc : wr.cell? ⟨rb, 0, none⟩ = some (.slice (some ⟨a, 0, none⟩) 2 cap) := by rw [B3.cell]; rfl
          have hrg : wr.rangeAt a 32 (feL V) := by have := S3.range (i := 1) (by omega); rw [Nat.one_mul] at this; rw [← HV.out]; exact this
          go_wp2_with (refine load_sc rfl _ rfl a 32 V rfl hrg ?_)
          refine (Neg_o V HVR.out wr).mono ?_
          rintro e w5 ⟨rfl, k⟩
          replace C := C.trans1 k
          replace Sl := Sl.chg k (by simp)
          clear k hc hrg S3 B3
          go_wp2_with (refine store_sb rfl (.tmp 65) (.tmp 64) rfl lb 2 0 _ (ng V) rfl rfl Sl (by omega) ?_; intro w6 S6 k6)
          replace C := C.new k6 HLB.out
          clear k6 Sl
          go_roundw
          case rel => exact Or.inr ⟨rfl, S6, C⟩
          case measure => simp [intOf]
        · go_wp2_with (first
            | (with_reducible refine build_1 ?_ 24 0 (.const (.int .u8 1)) ?_ (.int .u8 1) ?_ (feC 1) HB1 ?_
               · rfl
               · rfl
               · rfl)
            | (refine store_sb rfl (.tmp 70) (.tmp 69) rfl lb 2 1 _ 1 rfl rfl Sl (by omega) ?_; intro w6 S6 k6))
          replace C := C.new k6 HLB.out
          go_ret2
          refine ⟨lb, HLB.out, rfl, S6.congr (fun j hj => ?_), C⟩
          unfold upS lc1
          rcases j with _ | _ | j
          · rw [if_neg (by omega), if_pos rfl, if_pos rfl, HV.out]
          · rw [if_pos rfl, if_neg (by omega)]
          · omega
end Go.Proofs.YtoafcaieifjoiaaGreat

/- slices.Sort of one; shamir.cleared, Correct where one share may be wrong. -/
namespace Go.Proofs.YtoafcaieifjoiaaGreat
open Go.RowKit N

theorem insertion_1 (p : Option Addr) (c : Nat) (w : World) : Calls Tryz.prog 142 #[.slice p 1 c, .int .i64 0, .int .i64 1] w fun e w' => e = .returned (.tuple #[]) ∧ w' = w := by
  go_enter Tryz.func142, Tryz.ntmps142
  go_wp2_with fail
  go_loopw [6] (fun t wr => t = .int .i64 1 ∧ wr = w) (fun _ _ => 0)
  case atStart => exact ⟨rfl, rfl⟩
  case round =>
    obtain ⟨rfl, rfl⟩ := hrel
    go_wp2_with fail
    go_end0
    exact ⟨rfl, rfl⟩
theorem pdq_1 (p : Option Addr) (c : Nat) (l : Int) (w : World) : Calls Tryz.prog 118 #[.slice p 1 c, .int .i64 0, .int .i64 1, .int .i64 l] w fun e w' => e = .returned (.tuple #[]) ∧ w' = w := by
  go_enter Tryz.func118, Tryz.ntmps118
  go_wp2_with fail
  go_loopw [1, 2] (fun a b wr => a = .int .i64 0 ∧ b = .int .i64 1 ∧ wr = w) (fun _ _ _ => 0)
  case atStart => exact ⟨rfl, rfl, rfl⟩
  case round =>
    obtain ⟨rfl, rfl, rfl⟩ := hrel
    go_wp2_with fail
    refine (insertion_1 p c wr).mono ?_
    rintro e w2 ⟨rfl, rfl⟩
    go_wp2_with fail
    exact bodyPost_ret (results_none rfl _ _ _) rfl ⟨rfl, rfl⟩
set_option maxRecDepth 100000 in
set_option maxHeartbeats 4000000 in
theorem len64_1 (w : World) : Calls Tryz.prog 152 #[.int .u64 1] w fun e w' => (∃ l, e = .returned (.int .i64 l)) ∧ w' = w := by
  go_enter Tryz.func152, Tryz.ntmps152
  go_wp2_with fail
  go_ret
  exact ⟨⟨_, rfl⟩, rfl⟩
theorem len_1 (w : World) : Calls Tryz.prog 119 #[.int .u64 1] w fun e w' => (∃ l, e = .returned (.int .i64 l)) ∧ w' = w := by
  go_enter Tryz.func119, Tryz.ntmps119
  go_wp2_with (go_at_call 152; refine (len64_1 _).mono ?_; rintro e w' ⟨⟨l, rfl⟩, rfl⟩)
  go_ret
  exact ⟨⟨_, rfl⟩, rfl⟩
theorem sort_1 (p : Option Addr) (c : Nat) (w : World) : Calls Tryz.prog 89 #[.slice p 1 c] w fun e w' => e = .returned (.tuple #[]) ∧ w' = w := by
  go_enter Tryz.func89, Tryz.ntmps89
  go_wp2_with (first
    | (go_at_call 119; refine (len_1 _).mono ?_; rintro e w' ⟨⟨l, rfl⟩, rfl⟩)
    | (go_at_call 118; refine (pdq_1 _ _ _ _).mono ?_; rintro e w' ⟨rfl, rfl⟩))
  go_end0
  exact ⟨rfl, rfl⟩
/-! ### Shares of the call's own -/
def oH (l : List (Int × Int)) : Nat → List Value := fun j => .int .i64 (l.getD j (0, 0)).1 :: feL (l.getD j (0, 0)).2
theorem oH_ok (n : Nat) (l : List (Int × Int)) : Rok 33 n (oH l) := fun i _ => hF_ok 1 (fun _ => (l.getD i (0, 0)).1) (fun _ => (l.getD i (0, 0)).2) 0 (by omega)
def Oh (w : World) (base : Nat) (v : Value) (l : List (Int × Int)) : Prop := OwnR w base 96 33 v l.length (oH l)
theorem Oh.nil (w : World) (base : Nat) : Oh w base (.slice none 0 0) [] := OwnR.nil w base _ _ _
theorem Oh.chg {w w' : World} {base : Nat} {v : Value} {l : List (Int × Int)} (h : Oh w base v l) (hc : Chg w w' []) : Oh w' base v l := OwnR.chg h hc (fun _ _ => by simp)
theorem Oh.keep {w w0 w' : World} {base : Nat} {v : Value} {l : List (Int × Int)} {b : Nat} (h : Oh w base v l) (hc : Chg w w' [b]) (hb : w0.heap.size ≤ b) (h0 : Oh w0 base v l) : Oh w' base v l := OwnR.chg h hc (fun k hk => by have := (ob_own h0 k hk).2; simp; omega)
theorem fill_sh (d y : Int) : Instr.fill (fun i => some (i * 33, 33)) ((Array.range (1 * 33)).map ((Value.agg zSh).cells[· % (Value.agg zSh).cells.size]!)) [(0, .agg (shC d y))] = some (shC d y) := by kernel_rfl
theorem append_oh {w : World} {ops : Array Oper} {rest : List Oper} {o : Oper} {a : Act} {Q : Exit → Act → World → Prop} (hgd : o.guard = none) (so xo : Operand)
    (ho : o.op = .call { callee := .builtin .append, args := #[so, xo], argTypes := #[49, 49] })
    (base : Nat) (v : Value) (gx : Nat) (l : List (Int × Int)) (d y : Int) (hs : a.eval so = v) (hxe : a.eval xo = .slice (some ⟨gx, 0, none⟩) 1 1) (hown : Oh w base v l) (hx : Blk w gx (shC d y) 96) (hl : l.length ≤ 2000000) (hbase : base ≤ w.heap.size)
    (h : ∀ v' w', Oh w' base v' (l ++ [(d, y)]) → Chg w w' (ob v) → wpList Tryz.prog ops Q rest (a.put o.dst v') w') : wpList Tryz.prog ops Q (o :: rest) a w := by
  obtain ⟨ii, hi, hz, h1, h2⟩ := shRow
  have hR : Rl w 33 (.slice (some ⟨gx, 0, none⟩) 1 1) 1 (oH [(d, y)]) := ⟨oH_ok 1 _, Or.inr ⟨gx, 0, 1, rfl, Nat.le_refl _, by omega, hx.lt, fun i hi => by
    obtain rfl : i = 0 := by omega
    intro j u hu
    rw [Nat.zero_mul, Nat.zero_add, hx.cell]
    unfold shC
    rw [List.getElem?_toArray]
    exact hu⟩⟩
  refine wpList_append_r hgd so xo 49 ho 96 ii (.agg zSh) 33 40 Tryz.underlying49 hi hz h1 h2 rfl (by omega) base v _ l.length 1 (oH l) (oH [(d, y)]) hs hxe hown hR (by omega) (by omega) (by omega) hbase ?_
  intro g cap w' O k _ _
  refine h _ w' ?_ k
  unfold Oh
  rw [List.length_append]
  refine O.congr fun j hj => ?_
  unfold catR oH
  by_cases h : j < l.length
  · rw [if_pos h]; simp [List.getD_eq_getElem?_getD, List.getElem?_append_left h]
  · rw [if_neg h]; simp [List.getD_eq_getElem?_getD, List.getElem?_append_right (show l.length ≤ j by omega)]
/-- The shares at whose places the locator is not 0. -/
def clL (f : Nat → Nat) (M : Nat) (d y : Nat → Int) : Nat → List (Int × Int)
  | 0 => []
  | k + 1 => if ev f (d k) 0 M = 0 then clL f M d y k else clL f M d y k ++ [(d k, y k)]
theorem clL_len (f : Nat → Nat) (M : Nat) (d y : Nat → Int) : ∀ k, (clL f M d y k).length ≤ k
  | 0 => Nat.le_refl _
  | k + 1 => by
    have := clL_len f M d y k
    unfold clL
    by_cases h : ev f (d k) 0 M = 0
    · rw [if_pos h]; omega
    · rw [if_neg h, List.length_append]; simp; omega
set_option maxHeartbeats 16000000 in
set_option maxRecDepth 100000 in
theorem cleared_s (v u : Value) (M : Nat) (f : Nat → Nat) (hM : M ≤ 4611686018427387904) (N : Nat) (d y : Nat → Int) (hN : N ≤ 255) (hd : ∀ i, i < N → 1 ≤ d i ∧ d i ≤ 255) (w : World) (hC : Ls w v M f) (hL : Hl w u N d y) :
    Calls Tryz.prog 88 #[u, v] w fun e w' => ∃ r, e = .returned r ∧ Oh w' w.heap.size r (clL f M d y N) ∧ Chg w w' [] := by
  obtain ⟨p, cp, rfl, hp⟩ := hL.1.form
  have HLc : Hid (Ls w v M f) := hC
  obtain ⟨pc, cv, rfl, _⟩ := hC.form
  have HP : Hid (∀ i, i < N → ∃ g o, p = some ⟨g, o, none⟩ ∧ g < w.heap.size ∧ w.rangeAt g (o + i * 33) (hF d y i)) := hp
  have HN : Hid (N ≤ 255) := hN
  have HM : Hid (M ≤ 4611686018427387904) := hM
  have HD : Hid (∀ i, i < N → 1 ≤ d i ∧ d i ≤ 255) := hd
  have O0 := Oh.nil w w.heap.size
  clear hp hL hN hd hC hM
  obtain ⟨ie, hie, hiz, his, _⟩ := shRow
  go_enter Tryz.func88, Tryz.ntmps88
  go_wp2_with fail
  go_loopw [5, 10] (fun o t wr => ∃ i : Nat, i ≤ N ∧ t = .int .i64 (i : Int) ∧ Oh wr w.heap.size o (clL f M d y i) ∧ Chg w wr []) (fun _ t _ => (N - intOf t).toNat)
  case atStart => exact ⟨0, Nat.zero_le _, rfl, O0, Chg.refl w []⟩
  case round =>
    clear O0
    obtain ⟨i, hi, rfl, O, C⟩ := hrel
    by_cases h : i < N
    · have hI : (i : Int) < (N : Int) := by omega
      have hI0 : (0 : Int) ≤ (i : Int) := by omega
      have e1 : IntKind.i64.wrap ((i : Int) + 1) = (i : Int) + 1 := by have := HN.out; rw [IntKind.wrap_i64]; omega
      have HMs : Hid _ := mN N i h
      have HI : Hid (i < N) := h
      have HPl : Hid (0 ≤ d i ∧ d i < 9223372036854775808) := by have := HD.out i h; show 0 ≤ d i ∧ d i < 9223372036854775808; omega
      have HX : Hid (R256 (d i)) := by have := HD.out i h; show R256 (d i); unfold R256; omega
      have HLn : Hid ((clL f M d y i).length ≤ i) := clL_len f M d y i
      have HST : Hid (clL f M d y (i + 1) = if ev f (d i) 0 M = 0 then clL f M d y i else clL f M d y i ++ [(d i, y i)]) := rfl
      have HEQ : Hid (eqn (cn (ev f (d i) 0 M)) 0 = decide (ev f (d i) 0 M = 0)) := by
        have h1 := ev_rl f (d i) M 0
        have h2 : cn (ev f (d i) 0 M) = ev f (d i) 0 M := Int.emod_eq_of_lt h1.1 (by have := h1.2; unfold L; exact this)
        show eqn (cn (ev f (d i) 0 M)) 0 = decide (ev f (d i) 0 M = 0)
        rw [h2, eqn_eq h1 ⟨by decide, by decide⟩]
      obtain ⟨gp, o, rfl, hg, hF⟩ := HP.out i h
      have hF' : wr.rangeAt gp (o + i * 33) (.int .i64 (d i) :: feL (y i)) := rangeAt_chg hF hg C (by simp)
      have HCz : Hid (w.heap.size ≤ wr.heap.size) := C.size
      clear hF hg h hi
      go_wp2_with (first
        | (refine load_sh rfl _ rfl gp (o + i * 33) (d i) (y i) rfl hF' ?_)
        | (refine alloc_w rfl 96 rfl (.agg zSh) zeroSh zSh rfl ?_; intro sb w1 hsb B0 k1)
        | (refine store_w B0 rfl 96 _ _ (shC (d i) (y i)) rfl rfl rfl shInfo rfl (shC_one _ _) ?_; intro wq Bs k2; have S1 := sh_id Bs))
      have HSB : Hid (w.heap.size ≤ sb) := by have := HCz.out; show w.heap.size ≤ sb; omega
      replace O := (O.chg k1).keep k2 hsb O
      replace C := (C.trans1 k1).new k2 HSB.out
      clear k1 k2 B0 hF' hsb S1
      refine (place_s (d i) HPl.out wq).mono ?_
      rintro e w3 ⟨rfl, k⟩
      replace C := C.trans1 k
      replace O := O.chg k
      replace Bs := Bs.chg k (by simp)
      clear k
      go_wp2_with fail
      refine (Eval_s _ M f HM.out (d i) HX.out w3 (HLc.out.chg0 C)).mono ?_
      rintro e w4 ⟨rfl, k⟩
      replace C := C.trans1 k
      replace O := O.chg k
      replace Bs := Bs.chg k (by simp)
      clear k
      obtain ⟨V, hV⟩ : ∃ V, ev f (d i) 0 M = V := ⟨_, rfl⟩
      have HVR : Hid (R256 V) := by show R256 V; rw [← hV]; exact r256_rl (ev_rl _ _ _ _)
      rw [hV] at HEQ HST
      rw [hV]
      clear hV
      go_wp2_with fail
      by_cases hz : V = 0
      · refine (IsZero_is V HVR.out true (by rw [HEQ.out]; exact decide_eq_true hz) w4).mono ?_
        rintro e w5 ⟨rfl, k⟩
        replace C := C.trans1 k
        replace O := O.chg k
        have HS2 : Hid (clL f M d y (i + 1) = clL f M d y i) := by show clL f M d y (i + 1) = clL f M d y i; rw [HST.out, if_pos hz]
        clear k HST HEQ hz Bs
        go_wp2_with fail
        go_roundw
        case rel => exact ⟨i + 1, HI.out, by go_num, by rw [HS2.out]; exact O, C⟩
        case measure => exact HMs.out
      · refine (IsZero_is V HVR.out false (by rw [HEQ.out]; exact decide_eq_false hz) w4).mono ?_
        rintro e w5 ⟨rfl, k⟩
        replace C := C.trans1 k
        replace O := O.chg k
        replace Bs := Bs.chg k (by simp)
        have HS2 : Hid (clL f M d y (i + 1) = clL f M d y i ++ [(d i, y i)]) := by show clL f M d y (i + 1) = clL f M d y i ++ [(d i, y i)]; rw [HST.out, if_neg hz]
        have HCz4 : Hid (w.heap.size ≤ w5.heap.size) := C.size
        clear k HST HEQ hz
        go_wp2_with (first
          | (refine load_b Bs 96 _ Tryz.underlying96 rfl rfl rfl rfl shInfo ?_)
          | (with_reducible refine bslice_w ?_ 49 96 (.tmp 22) ?_ (.agg (shC (d i) (y i))) ?_ (shC (d i) (y i)) ie (.agg zSh) Tryz.underlying49 hie hiz 33 his ?_ ?_ (fill_sh _ _) ?_
             · rfl
             · rfl
             · rfl
             · omega
             · omega
             intro gx w6 hgx Bx k2)
          | (with_reducible refine append_oh ?_ (.tmp 21) (.tmp 23) ?_ w.heap.size u5 gx (clL f M d y i) (d i) (y i) ?_ ?_ (O.chg k2) Bx ?_ ?_ ?_
             · rfl
             · rfl
             · rfl
             · rfl
             · have := HLn.out; have := HN.out; have := HI.out; omega
             · have := HCz4.out; have := k2.size; omega
             intro v3 w7 O3 k3))
        have hob := ob_own O
        replace C := (C.trans1 k2).trans k3 (fun i hi => Or.inr (hob i hi).1)
        clear k2 k3 Bx hgx O hob
        go_roundw
        case rel => exact ⟨i + 1, HI.out, by go_num, by rw [HS2.out]; exact O3, C⟩
        case measure => exact HMs.out
    · obtain rfl : i = N := by omega
      have hI : ¬ (i : Int) < (i : Int) := by omega
      go_wp2_with fail
      go_ret
      exact ⟨_, rfl, O, C⟩
theorem Oh.hl {w : World} {base : Nat} {v : Value} {l : List (Int × Int)} (h : Oh w base v l) (hy : ∀ j, j < l.length → R256 (l.getD j (0, 0)).2) : Hl w v l.length (fun j => (l.getD j (0, 0)).1) (fun j => (l.getD j (0, 0)).2) := ⟨OwnR.rl h, hy⟩
end Go.Proofs.YtoafcaieifjoiaaGreat

/- shamir.Correct where one share is wrong. -/
namespace Go.Proofs.YtoafcaieifjoiaaGreat
open Go.RowKit N

set_option maxHeartbeats 16000000 in
set_option maxRecDepth 100000 in
theorem Correct_2 (v : Value) (T : Nat) (hT : 0 < T) (d y : Nat → Int) (hN : T + 2 ≤ 255) (hid : idR d (T + 2) = 0) (hz : ∀ i, i < T + 2 → ¬ LN ∣ (gpv d (T + 2) i).toNat) (hm : eqn (cn (mo d y (T + 2) 0)) 0 = false)
    (l : List (Int × Int)) (hl : clL (nT (lc1 d y (T + 2))) 2 d y (T + 2) = l) (hlT : T ≤ l.length) (hlr : ∀ j, j < l.length → R256 (l.getD j (0, 0)).2) (hld : ∀ j, j < T → 1 ≤ (l.getD j (0, 0)).1 ∧ (l.getD j (0, 0)).1 ≤ 255)
    (hlz : ∀ j, j < T → ¬ zv (fun j => (l.getD j (0, 0)).1) j = 0) (c : Nat → Int) (hc : cc (fun j => (l.getD j (0, 0)).1) (fun j => (l.getD j (0, 0)).2) T = c)
    (x : Int) (hs : stL (nT c) T d y (T + 2) = [x]) (w : World) (hL : Hl w v (T + 2) d y) :
    Calls Tryz.prog 34 #[v, .int .i64 (T : Int)] w fun e w' => ∃ g r, w.heap.size ≤ g ∧ e = .returned (.tuple #[.slice (some ⟨g, 0, none⟩) T T, r, .int .i64 0]) ∧ Sb w' g T c ∧ Oi w' w.heap.size r [x] ∧ Chg w w' [] := by
  obtain ⟨N, hNT⟩ : ∃ N, T + 2 = N := ⟨_, rfl⟩
  have hK := checkEnough_s v (T + 2) d y (by omega) (T : Int) w hL
  have hE : enR d (T + 2) (T : Int) = 0 := by unfold enR; rw [if_pos (by omega), if_neg (by omega)]; exact hid
  rw [hE] at hK
  have HLoc : Hid (∀ w', Chg w w' [] → Calls Tryz.prog 87 #[v, .int .i64 (T : Int), .int .i64 1] w' fun e w'' => ∃ g, w'.heap.size ≤ g ∧ e = .returned (.tuple #[.slice (some ⟨g, 0, none⟩) 2 2, .bool true]) ∧ Sb w'' g 2 (lc1 d y (T + 2)) ∧ Chg w' w'' []) := fun w' k => locate_2 v T d y hN ((idE_zero (idR_zero hid).1).1) hz hm w' (hL.chg k)
  have HD : Hid (∀ i, i < T + 2 → 1 ≤ d i ∧ d i ≤ 255) := (idE_zero (idR_zero hid).1).1
  have HL : Hid (Hl w v (T + 2) d y) := hL
  have Hl' : Hid (clL (nT (lc1 d y (T + 2))) 2 d y (T + 2) = l) := hl
  have HlT : Hid (0 < T ∧ T ≤ l.length ∧ T + 2 ≤ 255) := ⟨hT, hlT, hN⟩
  have Hlr : Hid (∀ j, j < l.length → R256 (l.getD j (0, 0)).2) := hlr
  have Hld : Hid (∀ j, j < T → 1 ≤ (l.getD j (0, 0)).1 ∧ (l.getD j (0, 0)).1 ≤ 255) := hld
  have Hlz : Hid (∀ j, j < T → ¬ zv (fun j => (l.getD j (0, 0)).1) j = 0) := hlz
  have Hc : Hid (cc (fun j => (l.getD j (0, 0)).1) (fun j => (l.getD j (0, 0)).2) T = c) := hc
  have Hs : Hid (stL (nT c) T d y (T + 2) = [x]) := hs
  obtain ⟨p, cp, rfl, _⟩ := hL.1.form
  have e0 : IntKind.i64.wrap (((N : Nat) : Int) - (T : Int)) = 2 := by rw [IntKind.wrap_i64]; omega
  have HNT : Hid (T + 2 = N) := hNT
  rw [hNT] at hK HLoc HL HD Hl' Hs
  rw [hNT]
  clear hL hid hz hm hl hlT hlr hld hlz hc hs hN hT hE hNT
  go_enter Tryz.func34, Tryz.ntmps34
  go_wp2_with fail
  refine hK.mono ?_
  rintro e w1 ⟨rfl, C⟩
  clear hK
  go_wp2_with fail
  refine (HLoc.out w1 C).mono ?_
  rintro e w2 ⟨lb, hlb, rfl, Sl, k⟩
  replace C := C.trans1 k
  clear k hlb HLoc
  have LL := Sl.ls (by omega) (fun j hj => by unfold lc1; by_cases h : j = 0; rw [if_pos h]; exact r256_mod _; rw [if_neg h]; exact r256_c1) (n := 2) (Nat.le_refl _)
  go_wp2_with fail
  refine (cleared_s _ _ 2 (nT (lc1 d y N)) (by omega) N d y (by have := HlT.out; have := HNT.out; omega) HD.out w2 LL (HL.out.chg C)).mono ?_
  rintro e w3 ⟨r, rfl, O, k⟩
  replace C := C.trans1 k
  rw [Hl'.out] at O
  clear k LL Sl Hl'
  have HO := O.hl Hlr.out
  obtain ⟨pr, cr, rfl, _⟩ := HO.1.form
  have HT2 := HO.take HlT.out.1 HlT.out.2.1
  have hTi : (T : Int) ≤ (l.length : Int) := by have := HlT.out; omega
  have hT0 : (0 : Int) ≤ (T : Int) := by omega
  have hTc : (T : Int) ≤ (cr : Int) := by
    rcases HT2.1.2 with ⟨h1, _⟩ | ⟨g, o, cap, e, h1, _⟩
    · have := HlT.out; omega
    · simp only [Value.slice.injEq] at e
      obtain ⟨_, _, rfl⟩ := e
      omega
  have HH2 : Hid (Hl w3 (.slice pr T cr) T (fun j => (l.getD j (0, 0)).1) (fun j => (l.getD j (0, 0)).2)) := HT2
  clear HO HT2 O
  go_wp2_with fail
  refine (throughShares_s _ T _ _ HlT.out.1 (by have := HlT.out; omega) Hld.out Hlz.out w3 HH2.out).mono ?_
  rintro e w4 ⟨g, hg, rfl, S, k⟩
  have HG : Hid (w.heap.size ≤ g) := by have := C.size; show w.heap.size ≤ g; omega
  replace C := C.trans1 k
  rw [Hc.out] at S
  have HCR : Hid (∀ j, R256 (c j)) := fun j => by rw [← Hc.out]; exact cc_r _ _ T j
  clear k hg HH2 Hc
  have LC := S.ls (by have := HlT.out; omega) (fun j _ => HCR.out j) (Nat.le_refl _)
  go_wp2_with fail
  refine (strays_s _ _ T (nT c) (by have := HlT.out; omega) N d y (by have := HlT.out; have := HNT.out; omega) HD.out w4 LC (HL.out.chg C)).mono ?_
  rintro e w5 ⟨r, rfl, O, k⟩
  have HB5 : Hid (w.heap.size ≤ w4.heap.size) := C.size
  replace C := C.trans1 k
  replace S := S.chg k (by simp)
  rw [Hs.out] at O
  have O2 : Oi w5 w.heap.size r [x] := ⟨ownsRow_base O.1 HB5.out, O.2⟩
  obtain ⟨ps, cs, rfl⟩ := O.form
  have HO2 : Hid (Oi w5 w.heap.size (.slice ps [x].length cs) [x]) := O2
  clear k LC O O2 Hs
  go_wp2_with fail
  refine (sort_1 ps cs w5).mono ?_
  rintro e w6 ⟨rfl, rfl⟩
  go_wp2_with fail
  go_ret3
  exact ⟨g, _, HG.out, rfl, S, HO2.out, C⟩
end Go.Proofs.YtoafcaieifjoiaaGreat

/- The numbers of the small example. -/
namespace Go.Proofs.YtoafcaieifjoiaaGreat
open Go.RowKit N

theorem iv_is {x : Int} {n : Nat} (hx0 : 0 ≤ x) (hx1 : x < L) (h : ¬ LN ∣ n) (e : x * (n : Int) % L = 1) : iv (n : Int) = x := (iv_one hx0 hx1 h e).symm
theorem ivA1 : iv 1 = 1 := iv_is (n := 1) (by decide) (by unfold L; decide) (by unfold LN; decide) (by unfold L; decide)
theorem ivA2 : iv 2 = 3618502788666131106986593281521497120428558179689953803000975469142727125495 := iv_is (n := 2) (by decide) (by unfold L; decide) (by unfold LN; decide) (by unfold L; decide)
theorem ivA6 : iv 6 = 6030837981110218511644322135869161867380930299483256338334959115237878542491 := iv_is (n := 6) (by decide) (by unfold L; decide) (by unfold LN; decide) (by unfold L; decide)
theorem ivAm6 : iv 7237005577332262213973186563042994240857116359379907606001950938285454250983 = 1206167596222043702328864427173832373476186059896651267666991823047575708498 := iv_is (n := 7237005577332262213973186563042994240857116359379907606001950938285454250983) (by decide) (by unfold L; decide) (by unfold LN; decide) (by unfold L; decide)
theorem ivAm2 : iv 7237005577332262213973186563042994240857116359379907606001950938285454250987 = 3618502788666131106986593281521497120428558179689953803000975469142727125494 := iv_is (n := 7237005577332262213973186563042994240857116359379907606001950938285454250987) (by decide) (by unfold L; decide) (by unfold LN; decide) (by unfold L; decide)
theorem ivAh : iv 3618502788666131106986593281521497120428558179689953803000975469142727125495 = 2 := iv_is (n := 3618502788666131106986593281521497120428558179689953803000975469142727125495) (by decide) (by unfold L; decide) (by unfold LN; decide) (by unfold L; decide)
/-- The coefficients 5, 7. -/
def fA : Nat → Nat := fun j => if j = 0 then 5 else 7
def dA : Nat → Int := fun j => (j : Int) + 1
def yA : Nat → Int := fun i => ev fA (dA i) 0 2
def yB : Nat → Int := fun j => if j = 0 then 12 else if j = 1 then 20 else if j = 2 then 26 else 33
theorem yA0 : yA 0 = 12 := by kernel_rfl
theorem yA2 : yA 2 = 26 := by kernel_rfl
theorem idA3 : idR dA 3 = 0 := by kernel_rfl
theorem idA4 : idR dA 4 = 0 := by kernel_rfl
theorem zvA0 : zv dA 0 = 1 := by kernel_rfl
theorem zvA1 : zv dA 1 = 1 := by kernel_rfl
theorem zvA2 : zv dA 2 = 2 := by kernel_rfl
/-! ### Two points: the line -/
theorem cc1 (X Y : Nat → Int) (y0 : Int) (h : ml (sb (Y 0) 0) (iv (zv X 0)) = y0) (h0 : RL y0) : cc X Y 1 0 = y0 := by
  show ma (ml (sb (Y 0) 0) (iv (zv X 0))) 1 0 = y0
  rw [h]
  show (y0 * 1 + 0) % L = y0
  rw [Int.mul_one, Int.add_zero]
  exact Int.emod_eq_of_lt h0.1 (by have := h0.2; unfold L; exact this)
theorem cc2 (X Y : Nat → Int) (y0 e F : Int) (h1 : cc X Y 1 0 = y0) (he : ma 0 (X 1) y0 = e) (hy : 0 ≤ y0) (hF : ml (sb (Y 1) e) (iv (zv X 1)) = F) (j : Nat) (hj : j < 2) : cc X Y 2 j = ma F (zz X 1 j) (if j = 0 then y0 else 0) := by
  have hev : ev (nT (cc X Y 1)) (X 1) 0 1 = e := by
    show ma 0 (X 1) ((nT (cc X Y 1) 0 : Nat) : Int) = e
    rw [nT_c _ _ (by rw [h1]; exact hy), h1, he]
  show (if j < 2 then ma (ml (sb (Y 1) (ev (nT (cc X Y 1)) (X 1) 0 1)) (iv (zv X 1))) (zz X 1 j) (cc X Y 1 j) else _) = _
  rw [if_pos hj, hev, hF]
  rcases j with _ | _ | j
  · rw [h1, if_pos rfl]
  · rw [if_neg (by omega)]; rfl
  · omega
theorem ccA1 : cc dA yA 1 0 = 12 := cc1 dA yA 12 (by rw [zvA0, ivA1]; kernel_rfl) (by unfold RL; decide)
theorem ccA (j : Nat) (hj : j < 2) : cc dA yA 2 j = ma 7 (zz dA 1 j) (if j = 0 then 12 else 0) := cc2 dA yA 12 12 7 ccA1 (by kernel_rfl) (by decide) (by rw [zvA1, ivA1]; kernel_rfl) j hj
theorem ccA_0 : cc dA yA 2 0 = 5 := (ccA 0 (by omega)).trans (by kernel_rfl)
theorem ccA_1 : cc dA yA 2 1 = 7 := (ccA 1 (by omega)).trans (by kernel_rfl)
theorem nT_A (c : Nat → Int) (h0 : c 0 = 5) (h1 : c 1 = 7) (x : Int) : ev (nT c) x 0 2 = ev fA x 0 2 := ev_congr fun i _ hi => by
  rcases i with _ | _ | i
  · show (c 0).toNat = 5; rw [h0]; rfl
  · show (c 1).toNat = 7; rw [h1]; rfl
  · omega
theorem stA : stL (nT (cc dA yA 2)) 2 dA yA 3 = [] := by
  have h : ∀ k, ev (nT (cc dA yA 2)) (dA k) 0 2 = cn (yA k) := fun k => by
    rw [nT_A _ ccA_0 ccA_1]
    have hr := ev_rl fA (dA k) 2 0
    exact (Int.emod_eq_of_lt hr.1 (by have := hr.2; unfold L; exact this)).symm
  unfold stL
  rw [if_pos (h 2)]
  unfold stL
  rw [if_pos (h 1)]
  unfold stL
  rw [if_pos (h 0)]
  rfl
theorem rcA : RcR dA yA 3 2 = (5, 0) := by
  unfold RcR
  rw [if_neg (by rw [show enR dA 3 2 = 0 from by kernel_rfl]; simp)]
  show (if stL (nT (cc dA yA 2)) 2 dA yA 3 = [] then (cc dA yA 2 0, (0 : Int)) else (0, 71)) = (5, 0)
  rw [if_pos stA, ccA_0]
theorem zA (j : Nat) (hj : j < 3) : ¬ zv dA j = 0 := by
  rcases j with _ | _ | _ | j
  · rw [zvA0]; decide
  · rw [zvA1]; decide
  · rw [zvA2]; decide
  · omega
/-! ### One share of four is wrong -/
theorem gpA0 : gpv dA 4 0 = 7237005577332262213973186563042994240857116359379907606001950938285454250983 := by kernel_rfl
theorem gpA1 : gpv dA 4 1 = 2 := by kernel_rfl
theorem gpA2 : gpv dA 4 2 = 7237005577332262213973186563042994240857116359379907606001950938285454250987 := by kernel_rfl
theorem gpA3 : gpv dA 4 3 = 6 := by kernel_rfl
theorem gzA (i : Nat) (hi : i < 4) : ¬ LN ∣ (gpv dA 4 i).toNat := by
  rcases i with _ | _ | _ | _ | i
  · rw [gpA0]; unfold LN; decide
  · rw [gpA1]; unfold LN; decide
  · rw [gpA2]; unfold LN; decide
  · rw [gpA3]; unfold LN; decide
  · omega
def gA : Nat → Int := fun j => if j = 0 then 1206167596222043702328864427173832373476186059896651267666991823047575708498 else if j = 1 then 3618502788666131106986593281521497120428558179689953803000975469142727125495 else if j = 2 then 3618502788666131106986593281521497120428558179689953803000975469142727125494 else 6030837981110218511644322135869161867380930299483256338334959115237878542491
theorem igA (i : Nat) (hi : i < 4) : igv dA 4 i = gA i := by
  unfold igv
  rcases i with _ | _ | _ | _ | i
  · rw [gpA0, ivAm6]; rfl
  · rw [gpA1, ivA2]; rfl
  · rw [gpA2, ivAm2]; rfl
  · rw [gpA3, ivA6]; rfl
  · omega
theorem sL_congr {f g : Nat → Nat} : ∀ {N : Nat}, (∀ i, i < N → f i = g i) → sL f N = sL g N
  | 0, _ => rfl
  | N + 1, h => by unfold sL; rw [sL_congr (fun i hi => h i (by omega)), h N (by omega)]
theorem mo0 : mo dA yB 4 0 = 3618502788666131106986593281521497120428558179689953803000975469142727125495 := by
  unfold mo
  rw [sL_congr (g := fun j => (ml (gA j) (yB j)).toNat) (fun i hi => by show (ml (igv dA 4 i) (yB i)).toNat = _; rw [igA i hi])]
  kernel_rfl
theorem mo1 : mo dA yB 4 1 = 1 := by
  unfold mo
  rw [sL_congr (g := fun j => (ml (ml (gA j) (yB j)) (dA j)).toNat) (fun i hi => by show (ml (ml (igv dA 4 i) (yB i)) (dA i)).toNat = _; rw [igA i hi])]
  kernel_rfl
theorem moA : eqn (cn (mo dA yB 4 0)) 0 = false := by rw [mo0]; kernel_rfl
theorem lc1_0 (d y : Nat → Int) (N : Nat) : lc1 d y N 0 = ng (ml (mo d y N 1) (iv (mo d y N 0))) := if_pos rfl
theorem lcA0 : lc1 dA yB 4 0 = 7237005577332262213973186563042994240857116359379907606001950938285454250987 := by
  rw [lc1_0, mo0, mo1, ivAh]
  kernel_rfl
def lA : Nat → Nat := fun j => if j = 0 then 7237005577332262213973186563042994240857116359379907606001950938285454250987 else 1
theorem lcA (x : Int) : ev (nT (lc1 dA yB 4)) x 0 2 = ev lA x 0 2 := ev_congr fun i _ hi => by
  rcases i with _ | _ | i
  · show (lc1 dA yB 4 0).toNat = _; rw [lcA0]; rfl
  · show (lc1 dA yB 4 1).toNat = 1; rw [show lc1 dA yB 4 1 = 1 from if_neg (by omega)]; rfl
  · omega
def clA : List (Int × Int) := [(1, 12), (3, 26), (4, 33)]
theorem clAs : clL (nT (lc1 dA yB 4)) 2 dA yB 4 = clA := by
  unfold clL
  rw [lcA, if_neg (by rw [show ev lA (dA 3) 0 2 = 2 from by kernel_rfl]; decide)]
  unfold clL
  rw [lcA, if_neg (by rw [show ev lA (dA 2) 0 2 = 1 from by kernel_rfl]; decide)]
  unfold clL
  rw [lcA, if_pos (by kernel_rfl)]
  unfold clL
  rw [lcA, if_neg (by rw [show ev lA (dA 0) 0 2 = 7237005577332262213973186563042994240857116359379907606001950938285454250988 from by kernel_rfl]; decide)]
  rfl
def dC3 : Nat → Int := fun j => (clA.getD j (0, 0)).1
def yC3 : Nat → Int := fun j => (clA.getD j (0, 0)).2
theorem zvC0 : zv dC3 0 = 1 := by kernel_rfl
theorem zvC1 : zv dC3 1 = 2 := by kernel_rfl
theorem ccC1 : cc dC3 yC3 1 0 = 12 := cc1 dC3 yC3 12 (by rw [zvC0, ivA1]; kernel_rfl) (by unfold RL; decide)
theorem ccC (j : Nat) (hj : j < 2) : cc dC3 yC3 2 j = ma 7 (zz dC3 1 j) (if j = 0 then 12 else 0) := cc2 dC3 yC3 12 12 7 ccC1 (by kernel_rfl) (by decide) (by rw [zvC1, ivA2]; kernel_rfl) j hj
theorem ccC_0 : cc dC3 yC3 2 0 = 5 := (ccC 0 (by omega)).trans (by kernel_rfl)
theorem ccC_1 : cc dC3 yC3 2 1 = 7 := (ccC 1 (by omega)).trans (by kernel_rfl)
theorem stC : stL (nT (cc dC3 yC3 2)) 2 dA yB 4 = [2] := by
  have h := nT_A _ ccC_0 ccC_1
  unfold stL
  rw [h, if_pos (by kernel_rfl)]
  unfold stL
  rw [h, if_pos (by kernel_rfl)]
  unfold stL
  rw [h, if_neg (by rw [show ev fA (dA 1) 0 2 = 19 from by kernel_rfl, show cn (yB 1) = 20 from by kernel_rfl]; decide)]
  unfold stL
  rw [h, if_pos (by kernel_rfl)]
  rfl
end Go.Proofs.YtoafcaieifjoiaaGreat

/- The small example that every law begins with: alive answers true. -/
namespace Go.Proofs.YtoafcaieifjoiaaGreat
open Go.RowKit N

theorem ga_loadm {ops : Array Oper} {rest : List Oper} {o : Oper} {a : Act} {w : World} {Q : Exit → Act → World → Prop} (hw : Region.wanted o (yielded ops a.tmps) = true) (x : Operand) (ho : o.op = .load 24 x)
    (g p : Nat) (X : Int) (hx : a.eval x = .pointer (some ⟨g, p, none⟩)) (hc : w.rangeAt g p (feL X))
    (h : wpList Tryz.prog ops Q rest (a.put o.dst (fe X)) w) : wpList Tryz.prog ops Q (o :: rest) a w := by
  unfold wpList
  rw [if_pos hw]
  exact Or.inl (wp_load_mid 24 x ho g p hx (feL X) _ hc Tryz.underlying24 rfl feInfo h)
theorem ga_build1 {P : Program} {ops : Array Oper} {rest : List Oper} {o : Oper} {a : Act} {w : World} {Q : Exit → Act → World → Prop} (hw : Region.wanted o (yielded ops a.tmps) = true) (t : TypeId) (i0 : Nat) (x0 : Operand) (ho : o.op = .build t #[(i0, x0)])
    (v0 : Value) (h0 : a.eval x0 = v0) (cells : Array Value) (hb : P.built t [(i0, v0)] = some cells) (h : wpList P ops Q rest (a.put o.dst (.agg cells)) w) : wpList P ops Q (o :: rest) a w := by
  have hb' : P.built t ((#[(i0, x0)] : Array (Nat × Operand)).map fun (i, x) => (i, a.eval x)).toList = some cells := by subst h0; simpa using hb
  unfold wpList
  rw [if_pos hw]
  exact Or.inl (wp_build t _ ho (by rw [hb']; rfl) (by rw [hb']; exact h))
/-- A slice literal, its cells said. -/
theorem bsl_w {P : Program} {w : World} {ops : Array Oper} {rest : List Oper} {op : Oper} {a : Act} {Q : Exit → Act → World → Prop} (hgd : op.guard = none) (t e : TypeId) (n : Nat) (parts : Array (Nat × Operand)) (ho : op.op = .buildSlice t n parts) (vs : List (Nat × Value)) (hv : (parts.map fun (i, x) => (i, a.eval x)).toList = vs) (cells : Array Value) (ie : TypeInfo) (z : Value)
    (hu : P.underlying t = some (.slice e)) (hie : P.info? e = some ie) (hz : ie.zero = some z) (s : Nat) (hs : ie.size = s) (h0 : ¬ n * s = 0) (h1 : ¬ n * s > 2 ^ 24)
    (hf : Instr.fill (fun i => some (i * s, s)) ((Array.range (n * s)).map (z.cells[· % z.cells.size]!)) vs = some cells)
    (h : ∀ g w', w.heap.size ≤ g → Blk w' g cells e → Chg w w' [] → wpList P ops Q rest (a.put op.dst (.slice (some ⟨g, 0, none⟩) n n)) w') : wpList P ops Q (op :: rest) a w := by
  subst hs hv
  exact wpList_buildSlice hgd t e n _ ho cells ie z hu hie hz h1 h0 hf (h _ _ (Nat.le_refl _) (Blk.new w _ _) ((Chg.refl w []).alloc _))
theorem bsl2_w {P : Program} {w : World} {ops : Array Oper} {rest : List Oper} {op : Oper} {a : Act} {Q : Exit → Act → World → Prop} (hgd : op.guard = none) (t e : TypeId) (x0 x1 : Operand) (ho : op.op = .buildSlice t 2 #[(0, x0), (1, x1)]) (v0 v1 : Value) (hv0 : a.eval x0 = v0) (hv1 : a.eval x1 = v1) (cells : Array Value) (ie : TypeInfo) (z : Value)
    (hu : P.underlying t = some (.slice e)) (hie : P.info? e = some ie) (hz : ie.zero = some z) (s : Nat) (hs : ie.size = s) (h0 : ¬ 2 * s = 0) (h1 : ¬ 2 * s > 2 ^ 24)
    (hf : Instr.fill (fun i => some (i * s, s)) ((Array.range (2 * s)).map (z.cells[· % z.cells.size]!)) [(0, v0), (1, v1)] = some cells)
    (h : ∀ g w', w.heap.size ≤ g → Blk w' g cells e → Chg w w' [] → wpList P ops Q rest (a.put op.dst (.slice (some ⟨g, 0, none⟩) 2 2)) w') : wpList P ops Q (op :: rest) a w := by
  subst hv0 hv1
  exact bsl_w hgd t e 2 _ ho [(0, a.eval x0), (1, a.eval x1)] (by simp) cells ie z hu hie hz s hs h0 h1 hf h
theorem fill_a2 : Instr.fill (fun i => some (i * 32, 32)) ((Array.range (2 * 32)).map ((Value.agg z32).cells[· % (Value.agg z32).cells.size]!)) [(0, fe 5), (1, fe 7)] = some (feL 5 ++ feL 7).toArray := by kernel_rfl
theorem fill_a3 : Instr.fill (fun i => some (i * 1, 1)) ((Array.range (3 * 1)).map ((Value.int .i64 0).cells[· % (Value.int .i64 0).cells.size]!)) [(0, .int .i64 1), (1, .int .i64 2), (2, .int .i64 3)] = some #[.int .i64 1, .int .i64 2, .int .i64 3] := by kernel_rfl
theorem sb_a2 {w : World} {o : Nat} (h : Blk w o (feL 5 ++ feL 7).toArray 24) : Sb w o 2 (fun j => ((fA j : Nat) : Int)) := Blk.to h (by kernel_rfl)
theorem ib_a3 {w : World} {o : Nat} (h : Blk w o #[.int .i64 1, .int .i64 2, .int .i64 3] 3) : Ib w o 3 dA := Blk.to h (by kernel_rfl)
theorem numS (x : Int) (hx : IntKind.i64.wrap x = x) (w : World) : Calls Tryz.prog 16 #[.int .i64 x] w fun e w' => e = .returned (.int .i64 x) ∧ w' = w := by
  go_enter Tryz.func16, Tryz.ntmps16
  go_wp2_with fail
  go_ret
  refine ⟨?_, rfl⟩
  first | rfl | (show Ending.returned (.int .i64 (IntKind.i64.wrap x)) = _; rw [hx])
theorem Hb.own {w : World} {o N : Nat} {d y : Nat → Int} {base : Nat} (h : Hb w o N d y) (hb : base ≤ o) (hN : N ≤ 1000000) : OwnR w base 96 33 (.slice (some ⟨o, 0, none⟩) N N) N (hF d y) :=
  ⟨⟨rL_len _ _ _, Or.inr ⟨o, N, _, rfl, hb, h, Nat.le_refl _, by unfold maxLen; omega, by rw [List.size_toArray, rL_len], by rw [List.take_of_length_le (by rw [rL_len]; exact Nat.le_refl _)]⟩⟩, hF_ok N d y⟩
/-- A share's Value stored. -/
theorem store_shv {w : World} {ops : Array Oper} {rest : List Oper} {op : Oper} {a : Act} {Q : Exit → Act → World → Prop} (hgd : op.guard = none) (x y : Operand) (ho : op.op = .store 24 x y) (base g N cap i : Nat) (d v : Nat → Int) (X : Int) (hx : a.eval x = .pointer (some ⟨g, i * 33 + 1, none⟩)) (hy : a.eval y = fe X)
    (hb : OwnR w base 96 33 (.slice (some ⟨g, 0, none⟩) N cap) N (hF d v)) (hi : i < N)
    (h : ∀ w', OwnR w' base 96 33 (.slice (some ⟨g, 0, none⟩) N cap) N (hF d (upS v i X)) → Chg w w' [g] → wpList Tryz.prog ops Q rest (a.put op.dst undef) w') : wpList Tryz.prog ops Q (op :: rest) a w := by
  obtain ⟨⟨h0, h1⟩, hF'⟩ := hb
  rcases h1 with ⟨h1, _⟩ | ⟨g', cap', cur, e, hg', hh, hc, hm, hs, ht⟩
  · cases h1
  · simp only [Value.slice.injEq, Option.some.injEq, Addr.mk.injEq] at e
    obtain ⟨⟨rfl, _⟩, _, rfl⟩ := e
    have hB : Blk w g cur 96 := hh
    have hl : i * 33 + 1 + 32 ≤ cur.size := by rw [hs]; have := Nat.mul_le_mul_right 33 (show i + 1 ≤ cap by omega); omega
    refine wpList_store_mid hgd 24 x y ho g (i * 33 + 1) (feC X) hx hy (hB.there (by rw [feC_size]; exact hl)) feInfo (feC_one X) (h _ ⟨⟨rL_len _ _ _, Or.inr ⟨g, cap, _, rfl, hg', hB.setCells (i * 33 + 1) (feL X), hc, hm, by rw [setL_size]; exact hs, ?_⟩⟩, hF_ok N d _⟩ ((Chg.refl w [g]).setCellsIn (by simp) _ _))
    apply List.ext_getElem?
    intro k
    by_cases hk : k < N * 33
    · obtain ⟨q1, q2, q3⟩ := row_at hk
      have e2 := congrArg (fun l => l[k]?) ht
      rw [List.getElem?_take_of_lt hk, Array.getElem?_toList, rL_at (hF_ok N d v) hk] at e2
      rw [List.getElem?_take_of_lt hk, Array.getElem?_toList, rL_at (hF_ok N d _) hk, setL_get, feL_len]
      unfold hF upS at *
      by_cases hq : k / 33 = i
      · rw [if_pos hq]
        rw [hq] at q3 e2
        rcases hr : k % 33 with _ | r
        · rw [if_neg (by omega), e2, hr, hq]; rfl
        · rw [if_pos ⟨by omega, by omega, by omega⟩, show k - (i * 33 + 1) = r by omega, List.getElem?_cons_succ]
      · rw [if_neg hq, if_neg, e2]
        rintro ⟨a1, a2, _⟩
        apply hq
        omega
    · rw [List.getElem?_eq_none (by rw [List.length_take]; omega), List.getElem?_eq_none (by rw [rL_len]; omega)]
end Go.Proofs.YtoafcaieifjoiaaGreat

/- alive answers true. -/
namespace Go.Proofs.YtoafcaieifjoiaaGreat
open Go.RowKit N

/-- The four shares, the last one just put behind. -/
def yM : Nat → Int := fun j => if j < 3 then yA j else 33
theorem yM_B (j : Nat) (hj : j < 4) : upS yM 1 20 j = yB j := by
  unfold upS yM
  rcases j with _ | _ | _ | _ | j
  · rw [if_neg (by omega), if_pos (by omega), yA0]; rfl
  · rw [if_pos rfl]; rfl
  · rw [if_neg (by omega), if_pos (by omega), yA2]; rfl
  · rw [if_neg (by omega), if_neg (by omega)]; rfl
  · omega
theorem built_5 : Tryz.prog.built 24 [(0, .int .u8 5)] = some (feC 5) := by kernel_rfl
theorem built_7 : Tryz.prog.built 24 [(0, .int .u8 7)] = some (feC 7) := by kernel_rfl
theorem built_20 : Tryz.prog.built 24 [(0, .int .u8 20)] = some (feC 20) := by kernel_rfl
theorem built_26 : Tryz.prog.built 24 [(0, .int .u8 26)] = some (feC 26) := by kernel_rfl
theorem built_33 : Tryz.prog.built 24 [(0, .int .u8 33)] = some (feC 33) := by kernel_rfl
theorem r256_yA (j : Nat) : R256 (yA j) := r256_rl (ev_rl _ _ _ _)
theorem r256_yB (j : Nat) : R256 (yB j) := by
  unfold yB R256
  split
  · decide
  · split
    · decide
    · split
      · decide
      · decide
theorem blk_rg {w : World} {o : Nat} {X : Int} (h : Blk w o (feC X) 24) : w.rangeAt o 0 (feL X) := by have := (sb_one h).range (i := 0) (by omega); rwa [Nat.zero_mul] at this
theorem sh_rl {w : World} {gx : Nat} {d y : Int} (h : Blk w gx (shC d y) 96) : Rl w 33 (.slice (some ⟨gx, 0, none⟩) 1 1) 1 (hF (fun _ => d) (fun _ => y)) := ⟨hF_ok 1 _ _, Or.inr ⟨gx, 0, 1, rfl, Nat.le_refl _, by omega, h.lt, fun i hi => by
    obtain rfl : i = 0 := by omega
    intro j u hu
    rw [Nat.zero_mul, Nat.zero_add, h.cell]
    unfold shC
    rw [List.getElem?_toArray]
    exact hu⟩⟩
theorem cat_M (j : Nat) (hj : j < 4) : catR (hF dA yA) 3 (hF (fun _ => 4) (fun _ => 33)) j = hF dA yM j := by
  unfold catR hF yM
  by_cases h : j < 3
  · rw [if_pos h, if_pos h]
  · rw [if_neg h, if_neg h]
    obtain rfl : j = 3 := by omega
    rfl
theorem clA_r (j : Nat) (hj : j < clA.length) : R256 (clA.getD j (0, 0)).2 := by
  unfold clA at *
  rcases j with _ | _ | _ | j
  · unfold R256; decide
  · unfold R256; decide
  · unfold R256; decide
  · simp at hj; omega
theorem clA_d (j : Nat) (hj : j < 2) : 1 ≤ (clA.getD j (0, 0)).1 ∧ (clA.getD j (0, 0)).1 ≤ 255 := by
  unfold clA
  rcases j with _ | _ | j
  · decide
  · decide
  · omega
theorem clA_z (j : Nat) (hj : j < 2) : ¬ zv (fun j => (clA.getD j (0, 0)).1) j = 0 := by
  show ¬ zv dC3 j = 0
  rcases j with _ | _ | j
  · rw [zvC0]; decide
  · rw [zvC1]; decide
  · omega
theorem hb_val {w : World} {g : Nat} (h : Hb w g 3 dA yA) : w.rangeAt g 67 (feL 26) := by
  rw [← yA2]
  intro j v hv
  have := Blk.rangeRw h (hF_ok 3 dA yA) (i := 2) (by omega) (j + 1) v (by unfold hF; rw [List.getElem?_cons_succ]; exact hv)
  rw [← this]
  congr 2
  omega
set_option maxHeartbeats 32000000 in
set_option maxRecDepth 100000 in
theorem alive_s (w : World) : Calls Tryz.prog 19 #[] w fun e w' => e = .returned (.bool true) ∧ Chg w w' [] := by
  obtain ⟨ie, hie, hiz, his, hib⟩ := scRowL
  obtain ⟨ii, hii, hiiz, hiis, _⟩ := intRowS
  obtain ⟨ih, hih, hihz, hihs, hihb⟩ := shRow
  have B5 := built_5
  have B7 := built_7
  have hge := feGuard
  go_enter Tryz.func19, Tryz.ntmps19
  go_wp2_with (first
    | (with_reducible refine build_1 ?_ 24 0 (.const (.int .u8 5)) ?_ (.int .u8 5) ?_ (feC 5) B5 ?_
       · rfl
       · rfl
       · rfl)
    | (with_reducible refine build_1 ?_ 24 0 (.const (.int .u8 7)) ?_ (.int .u8 7) ?_ (feC 7) B7 ?_
       · rfl
       · rfl
       · rfl)
    | (with_reducible refine bsl2_w ?_ 22 24 (.tmp 9) (.tmp 10) ?_ (fe 5) (fe 7) ?_ ?_ (feL 5 ++ feL 7).toArray ie (.agg z32) Tryz.underlying22 hie hiz 32 his ?_ ?_ fill_a2 ?_
       · rfl
       · rfl
       · rfl
       · rfl
       · omega
       · omega
       intro g1 w1 hg1 Bc k1)
    | (with_reducible refine bsl_w ?_ 25 3 3 #[(0, .const (.int .i64 1)), (1, .const (.int .i64 2)), (2, .const (.int .i64 3))] ?_ [(0, .int .i64 1), (1, .int .i64 2), (2, .int .i64 3)] ?_ #[.int .i64 1, .int .i64 2, .int .i64 3] ii (.int .i64 0) Tryz.underlying25 hii hiiz 1 hiis ?_ ?_ fill_a3 ?_
       · rfl
       · rfl
       · simp [Act.eval]
       · omega
       · omega
       intro g2 w2 hg2 Bi k2))
  have SC := (sb_a2 Bc).chg k2 (by simp)
  have LC : Ls w2 (.slice (some ⟨g1, 0, none⟩) 2 2) 2 fA := (SC.ls (by omega) (fun j _ => by unfold fA R256; split <;> decide) (Nat.le_refl _)).congr (fun i _ => by show ((fA i : Nat) : Int).toNat = fA i; omega)
  have LI := (ib_a3 Bi).il (by omega)
  have C : Chg w w2 [] := k1.trans1 k2
  clear k1 k2 Bc Bi hg1 hg2 SC B5 B7
  refine (Split_s _ _ 2 fA (by omega) 3 dA (by omega) w2 LC LI).mono ?_
  rintro e w3 ⟨hP, k⟩
  rcases hP with ⟨hbad, _⟩ | ⟨_, g, hg, rfl, HB⟩
  · exact absurd idA3 hbad
  have HG : Hid (w.heap.size ≤ g) := by have := C.size; show w.heap.size ≤ g; omega
  replace C := C.trans1 k
  have H1 : Hb w3 g 3 dA yA := HB
  clear k LC LI hg HB
  have HH := H1.hl (by omega) (fun j _ => r256_yA j) (n := 3) (Nat.le_refl _)
  go_wp2_with fail
  have hR := Recover_s _ 3 dA yA (by omega) 2 (fun j _ hj => zA j hj) w3 HH
  rw [rcA] at hR
  refine hR.mono ?_
  rintro e w4 ⟨rfl, k⟩
  replace C := C.trans1 k
  replace H1 := H1.chg k (by simp)
  clear hR k HH
  have hcz4 : Hid (w.heap.size ≤ w4.heap.size ∧ g < w4.heap.size) := ⟨C.size, H1.lt⟩
  have B26 := built_26
  have B5 := built_5
  have B33 := built_33
  have B20 := built_20
  have BS := built_sh 4 33
  go_wp2_with (first
    | (refine alloc_w rfl 24 rfl (.agg z32) zeroSc z32 rfl ?_; intro sb w5 hsb S0 k1)
    | (refine store_w S0 rfl 24 _ _ (feC 5) rfl rfl rfl feInfo rfl (feC_one _) ?_; intro w6 S1 k2; have H2 := (H1.chg k1 (by simp)).chg k2 (by have := hcz4.out; simp; omega); have hr67 := hb_val H2; have hrs := blk_rg S1; have O2 := H2.own HG.out (by omega); have C6 : Chg w w6 [] := (C.trans1 k1).new k2 (by have := hcz4.out; omega); have HCz : Hid (w.heap.size ≤ w6.heap.size) := C6.size; clear H2 k1 k2 S0 S1 hsb C H1 hcz4)
    | (go_at_call 16; refine (numS 0 (by decide) _).mono ?_; rintro e w' ⟨rfl, rfl⟩)
    | (with_reducible refine ga_loadm ?_ (.tmp 37) ?_ g 67 26 ?_ hr67 ?_
       · rfl
       · rfl
       · rfl)
    | (with_reducible refine ga_build1 ?_ 24 0 (.const (.int .u8 26)) ?_ (.int .u8 26) ?_ (feC 26) B26 ?_
       · rfl
       · rfl
       · rfl)
    | (with_reducible refine ga_loadm ?_ (.tmp 3) ?_ sb 0 5 ?_ hrs ?_
       · rfl
       · rfl
       · rfl)
    | (with_reducible refine ga_build1 ?_ 24 0 (.const (.int .u8 5)) ?_ (.int .u8 5) ?_ (feC 5) B5 ?_
       · rfl
       · rfl
       · rfl)
    | (with_reducible refine build_1 ?_ 24 0 (.const (.int .u8 33)) ?_ (.int .u8 33) ?_ (feC 33) B33 ?_
       · rfl
       · rfl
       · rfl)
    | (with_reducible refine build_2 ?_ 96 0 1 (.const (.int .i64 4)) (.tmp 48) ?_ (.int .i64 4) (fe 33) ?_ ?_ (shC 4 33) BS ?_
       · rfl
       · rfl
       · rfl
       · rfl)
    | (with_reducible refine bslice_w ?_ 49 96 (.tmp 49) ?_ (.agg (shC 4 33)) ?_ (shC 4 33) ih (.agg zSh) Tryz.underlying49 hih hihz 33 hihs ?_ ?_ (fill_sh _ _) ?_
       · rfl
       · rfl
       · rfl
       · omega
       · omega
       intro gx w7 hgx Bx k7)
    | (refine wpList_append_r rfl (.tmp 47) (.tmp 50) 49 rfl 96 ih (.agg zSh) 33 40 Tryz.underlying49 hih hihz hihs hihb rfl (by omega) w.heap.size (.slice (some ⟨g, 0, none⟩) 3 3) (.slice (some ⟨gx, 0, none⟩) 1 1) 3 1 (hF dA yA) (hF (fun _ => 4) (fun _ => 33)) rfl rfl (O2.chg k7 (fun _ _ => by simp)) (sh_rl Bx) (by omega) (by omega) (by omega) (by have := HCz.out; have := k7.size; omega) ?_; intro g8 cap w8 O8 k8 _ _; have O9 : OwnR w8 w.heap.size 96 33 (.slice (some ⟨g8, 0, none⟩) 4 cap) 4 (hF dA yM) := O8.congr cat_M; have HG8 : Hid (w.heap.size ≤ g8) := (ob_own O9 g8 (by simp [ob, Value.ownBlock])).1; have C8 : Chg w w8 [] := (C6.trans1 k7).trans k8 (fun i hi => by simp [ob, Value.ownBlock] at hi; subst hi; exact Or.inr HG.out); clear O8 k8 C6 k7 Bx hgx O2 hr67 hrs HCz)
    | (with_reducible refine build_1 ?_ 24 0 (.const (.int .u8 20)) ?_ (.int .u8 20) ?_ (feC 20) B20 ?_
       · rfl
       · rfl
       · rfl)
    | (refine store_shv rfl (.tmp 55) (.tmp 53) rfl w.heap.size g8 4 cap 1 dA yM 20 rfl rfl O9 (by omega) ?_; intro w9 O10 k9))
  have C9 := C8.new k9 HG8.out
  have HH : Hl w9 (.slice (some ⟨g8, 0, none⟩) 4 cap) 4 dA yB := ⟨(O10.congr (fun j hj => by unfold hF; rw [yM_B j hj])).rl, fun j _ => r256_yB j⟩
  have hCo := Correct_2 (.slice (some ⟨g8, 0, none⟩) 4 cap) 2 (by omega) dA yB (by omega) idA4 gzA moA clA clAs (by decide) (fun j hj => clA_r j hj) (fun j hj => clA_d j hj) (fun j hj => clA_z j hj) _ rfl 2 stC w9 HH
  clear k9 C8 O9 O10 HH HG8
  refine hCo.mono ?_
  rintro e w10 ⟨gc, r, hgc, rfl, S, O, k⟩
  clear hCo
  have C := C9.trans1 k
  have hS0 : w10.rangeAt gc 0 (feL 5) := by have := S.range (i := 0) (by omega); rw [Nat.zero_mul] at this; rw [← ccC_0]; exact this
  obtain ⟨pr, cr, rfl, hpr⟩ := (OwnR.rl O).form
  obtain ⟨gr, or, rfl, _, hgr⟩ := hpr 0 (by decide)
  have hcr : w10.cell? ⟨gr, or, none⟩ = some (.int .i64 2) := by have := hgr 0 (.int .i64 2) rfl; simpa using this
  clear C9 k hgc S O hgr hpr
  go_wp2_with (first
    | (go_at_call 16; refine (numS 0 (by decide) _).mono ?_; rintro e w' ⟨rfl, rfl⟩)
    | (with_reducible refine ga_loadm ?_ (.tmp 72) ?_ gc 0 5 ?_ hS0 ?_
       · rfl
       · rfl
       · rfl)
    | (with_reducible refine ga_build1 ?_ 24 0 (.const (.int .u8 5)) ?_ (.int .u8 5) ?_ (feC 5) B5 ?_
       · rfl
       · rfl
       · rfl))
  go_ret
  exact ⟨rfl, C⟩
end Go.Proofs.YtoafcaieifjoiaaGreat
