/- rimeref11: MAC, Extract. -/
import Derived.Test.YthpfdnkcepfbaaaDoorDr2
import Derived.Test.YthpfdnkcepfbaaaDoorDr6
import Derived.Test.YthpfdnkcepfbaaaDoorMgP
import Derived.Maps.AppendAt
set_option linter.unusedVariables false
set_option linter.unusedSimpArgs false
set_option linter.unnecessarySimpa false
namespace Go.Proofs.YthpfdnkcepfbaaaDoor
open Go.RowKit

/-- append of bytes to bytes of the call's own, and where they lie then. -/
theorem append_x {w : World} {ops : Array Oper} {rest : List Oper} {o : Oper} {a : Act} {Q : Exit → Act → World → Prop} (hgd : o.guard = none) (s x : Operand)
    (ho : o.op = .call { callee := .builtin .append, args := #[s, x], argTypes := #[22, 22] })
    (base : Nat) (vs vx : Value) (n m : Nat) (f g : Nat → Nat) (hs : a.eval s = vs) (hx : a.eval x = vx) (hown : Own w base vs n f) (hsl : Se w vx m g) (hnm : n + m ≤ 140737488355328) (hbase : base ≤ w.heap.size)
    (h : ∀ v' w', Own w' base v' (n + m) (cat f n g) → Chg w w' (ob vs) → (∀ k, k ∈ ob v' → k ∈ ob vs ∨ w.heap.size ≤ k) → wpList Tryd.prog ops Q rest (a.put o.dst v') w') : wpList Tryd.prog ops Q (o :: rest) a w := by
  obtain ⟨i, hi, hz, h1, h2⟩ := u8Row
  have key : ∀ (v' : Value), (v'.ownBlock = vs.ownBlock ∨ v'.ownBlock = some w.heap.size) → ∀ k, k ∈ ob v' → k ∈ ob vs ∨ w.heap.size ≤ k := fun v' h5 k hk => by
    rcases h5 with h5 | h5
    · left; unfold ob at hk ⊢; rwa [h5] at hk
    · right; unfold ob at hk; rw [h5] at hk; simp at hk; omega
  rcases hsl with (⟨rfl, rfl⟩ | ⟨gx, ox, cap, rfl, hc1, hc2, hb⟩) | ⟨rfl, ad, rfl⟩
  · refine wpList_append_own_none hgd s x 22 ho base 5 i 1 Tryd.underlying22 hi vs n (yL n f) hs hown.1 hx ?_
    refine h vs w ⟨?_, fun j hj => ?_⟩ (Chg.refl w _) (fun k hk => Or.inl hk)
    · have e : yL (n + 0) (cat f n g) = yL n f := by rw [← yL_cat]; simp [yL]
      rw [e]
      exact hown.1
    · unfold cat
      rw [if_pos (by omega)]
      exact hown.2 j (by omega)
  · refine wpList_append_own_at w hgd s x 22 ho base 5 i (.int .u8 0) 1 1 Tryd.underlying22 hi hz h1 h2 rfl (by omega) vs n (yL n f) hs hown.1 ⟨gx, ox, none⟩ m cap (yL m g) hx (by rw [yL_len]; omega)
      (fun j u hj => by obtain ⟨hj1, rfl⟩ := yL_some m g j u hj; exact add_cell (hb.cell j hj1)) (yL_one m g) (by simp [maxLen]; omega) (by omega) hbase ?_
    intro v' w' h3 h4 _ h5
    rw [yL_cat] at h3
    refine h v' w' ⟨h3, fun j hj => ?_⟩ (Chg.grown h4) (key v' h5)
    unfold cat
    by_cases hj2 : j < n
    · rw [if_pos hj2]; exact hown.2 j hj2
    · rw [if_neg hj2]; exact hb.bd _ (by omega)
  · refine wpList_append_own_at w hgd s x 22 ho base 5 i (.int .u8 0) 1 1 Tryd.underlying22 hi hz h1 h2 rfl (by omega) vs n (yL n f) hs hown.1 ad 0 0 (yL 0 g) hx (by rw [yL_len])
      (fun j u hj => by obtain ⟨hj1, rfl⟩ := yL_some 0 g j u hj; omega) (yL_one 0 g) (by simp [maxLen]; omega) (by omega) hbase ?_
    intro v' w' h3 h4 _ h5
    rw [yL_cat] at h3
    refine h v' w' ⟨h3, fun j hj => ?_⟩ (Chg.grown h4) (key v' h5)
    unfold cat
    rw [if_pos (by omega)]
    exact hown.2 j (by omega)
theorem cat_self1 (f : Nat → Nat) (n : Nat) : ∀ i, i < n + 1 → cat f n (fun _ => f n) i = f i := fun i hi => by
  unfold cat
  by_cases h : i < n
  · rw [if_pos h]
  · rw [if_neg h, show i = n by omega]
theorem Own.len {w : World} {base : Nat} {v : Value} {n : Nat} {f : Nat → Nat} (O : Own w base v n f) : ∃ p c, v = .slice p n c := by
  obtain ⟨⟨_, h1⟩, _⟩ := O
  rcases h1 with ⟨rfl, rfl⟩ | ⟨g, cap, cur, rfl, _⟩
  · exact ⟨none, 0, rfl⟩
  · exact ⟨_, _, rfl⟩
theorem Ps.len {w : World} {v : Value} {k : Nat} {pv : Nat → Value} {pn : Nat → Nat} {pf : Nat → Nat → Nat} (h : Ps w v k pv pn pf) : ∃ p c, v = .slice p k c ∧ k ≤ 9223372036854775807 := by
  rcases h.2 with ⟨rfl, rfl⟩ | ⟨g, o, cap, rfl, h1, h2, _⟩
  · exact ⟨none, 0, rfl, by omega⟩
  · exact ⟨_, _, rfl, by omega⟩
/-- The part i, where it lies. -/
theorem Ps.cell {w : World} {p : Option Addr} {c k : Nat} {pv : Nat → Value} {pn : Nat → Nat} {pf : Nat → Nat → Nat} (h : Ps w (.slice p k c) k pv pn pf) {i : Nat} (hi : i < k) : ∃ g o, p = some ⟨g, o, none⟩ ∧ w.cell? ⟨g, o + i, none⟩ = some (pv i) := by
  rcases h.2 with ⟨rfl, _⟩ | ⟨g, o, cap, he, _, _, _, hc⟩
  · omega
  · simp only [Value.slice.injEq] at he
    exact ⟨g, o, he.1, hc i hi⟩
set_option maxHeartbeats 16000000 in
set_option maxRecDepth 100000 in
theorem MAC_r (kv : Value) (n : Nat) (kf : Nat → Nat) (v : Value) (k : Nat) (pv : Nat → Value) (pn : Nat → Nat) (pf : Nat → Nat → Nat) (w : World) (hk : Se w kv n kf) (hn : n ≤ 140737488355328) (hp : Ps w v k pv pn pf) (hm : cN pn k ≤ 70368744177664) :
    Calls Tryd.prog 13 #[kv, v] w fun e w' => e = .returned (.agg (yC 64 (mac n kf (cN pn k) (cF pn pf k)))) ∧ Chg w w' [] := by
  have HK : Hid (Se w kv n kf ∧ n ≤ 140737488355328) := ⟨hk, hn⟩
  have HP : Hid (Ps w v k pv pn pf ∧ cN pn k ≤ 70368744177664) := ⟨hp, hm⟩
  have HKL : Hid (∀ j, kb n kf j < 256) := kb_lt hk.bd
  obtain ⟨KB, hKB⟩ : ∃ z, kb n kf = z := ⟨_, rfl⟩
  have HMAC : Hid (mac n kf (cN pn k) (cF pn pf k) = sha (cat (mk 92 KB) 128 (sha (cat (mk 54 KB) 128 (cF pn pf k)) (128 + cN pn k))) 192) := by show mac n kf (cN pn k) (cF pn pf k) = _; rw [← hKB]; rfl
  have HK1 : Hid (128 < n → yC 128 (lay (fun _ => 0) 0 64 (sha kf n)) = yC 128 KB) := fun h128 => yC_eq fun i hi => by
    rw [← hKB]
    unfold lay kb
    rw [if_pos h128]
    by_cases q : i < 64
    · rw [if_pos (by omega), if_pos q, Nat.sub_zero]
    · rw [if_neg (by omega), if_neg q]
  have HK2 : Hid (¬ 128 < n → yC 128 (lay (fun _ => 0) 0 n kf) = yC 128 KB) := fun h128 => yC_eq fun i hi => by
    rw [← hKB]
    unfold lay kb
    rw [if_neg h128]
    by_cases q : i < n
    · rw [if_pos (by omega), if_pos q, Nat.sub_zero]
    · rw [if_neg (by omega), if_neg q]
  rw [hKB] at HKL
  obtain ⟨p0, c0, rfl⟩ := hk.form
  obtain ⟨p1, c1, rfl, hk9⟩ := hp.len
  obtain ⟨D, hD⟩ : ∃ z, mac n kf (cN pn k) (cF pn pf k) = z := ⟨_, rfl⟩
  rw [hD] at HMAC ⊢
  clear hk hn hp hm hKB hD
  have hmk : ∀ W : World, (Instr.makeSlice 22 (.int .i64 128) (.int .i64 128)).run Tryd.prog W = .ok (.slice (some ⟨W.heap.size, 0, none⟩) 128 128) (W.alloc (.cells (yC 128 fun _ => 0) 5)) := fun W => make_y' 128 (by omega) W
  go_enter Tryd.func13, Tryd.ntmps13
  go_upto_region 1 with (with_reducible refine alloc_w rfl 47 rfl (.agg (yC 64 (fun _ => 0))) zeroDig (yC 64 (fun _ => 0)) rfl ?_; intro rb w1 hrb BR k1)
  have BB0 := Blk.new w1 (yC 128 (fun _ => 0)) 5
  have k2 := (Chg.refl w1 []).alloc (.cells (yC 128 (fun _ => 0)) 5)
  go_upto_region 2 with fail
  generalize w1.alloc (.cells (yC 128 (fun _ => 0)) 5) = w2 at *
  obtain ⟨kk, hkk⟩ : ∃ z, w1.heap.size = z := ⟨_, rfl⟩
  rw [hkk] at BB0 ⊢
  have BR2 := BR.chg k2 (by simp)
  have C2 := k1.trans1 k2
  have HRK : Hid (w.heap.size ≤ rb ∧ rb < kk ∧ w.heap.size ≤ kk) := ⟨hrb, by have := BR.lt; omega, by have := k1.size; omega⟩
  clear hkk k2 hmk BR k1 hrb
  go_upto_if 15 with fail
  go_cut [] (fun wc => Blk wc kk (yC 128 KB) 5 ∧ Blk wc rb (yC 64 (fun _ => 0)) 47 ∧ Chg w wc [])
  case first =>
    by_cases h128 : 128 < n
    · have hI : (128 : Int) < (n : Int) := by omega
      have hs : Sl w2 (.slice p0 n c0) n kf := by
        rcases HK.out.1.chg C2 with h | ⟨rfl, _⟩
        · exact h
        · omega
      have HQ : Hid (yC 128 (lay (fun _ => 0) 0 64 (sha kf n)) = yC 128 KB) := HK1.out h128
      clear h128
      go_wp2_with fail
      refine (Sum_r _ n kf w2 HK.out.2 hs).mono ?_
      rintro e w3 ⟨rfl, k3⟩
      have BB3 := BB0.chg k3 (by simp)
      have BR3 := BR2.chg k3 (by simp)
      have C3 := C2.trans1 k3
      obtain ⟨SH, hSH⟩ : ∃ z, sha kf n = z := ⟨_, rfl⟩
      have HSH : Hid (∀ i, SH i < 256) := fun i => by rw [← hSH]; exact sha_lt _ _ _
      rw [hSH] at HQ ⊢
      have HB3 : Hid (kk < w3.heap.size ∧ rb < w3.heap.size) := ⟨BB3.lt, BR3.lt⟩
      clear hSH k3 hs
      go_wp2_with (first
        | (refine copy_z rfl (.tmp 18) (.tmp 19) 22 22 rfl 5 Tryd.underlying22 u8Info kk 0 128 128 (some ⟨db, 0, none⟩) 64 64 rfl rfl #[] 128 (fun _ => 0) #[] 5 BB5.seg 0 64 SH (fun _ => rfl) rfl (fun _ => ⟨db, 0, rfl, S5.cell⟩) (by omega) ?_; intro w6 BB6 k6; have BR6 := BR5.chg k6 (by have := HRK.out; simp; omega); replace BB6 := BB6.unseg; rw [HQ.out] at BB6; simp only [Act.put, List.setIfInBounds_toArray, List.set_cons_zero, List.set_cons_succ])
        | (refine store_w BD rfl 47 _ _ (yC 64 SH) rfl rfl rfl (by rw [yC_size]; exact digInfo) (by rw [yC_size, yC_size]) (yC_one 64 _) ?_; intro w5 BD5 k5; have BB5 := (BB3.chg k4 (by simp)).chg k5 (by have := HB3.out; simp; omega); have BR5 := (BR3.chg k4 (by simp)).chg k5 (by have := HB3.out; simp; omega); have S5 := BD5.bs (fun i _ => HSH.out i))
        | (with_reducible refine alloc_w rfl 47 rfl (.agg (yC 64 (fun _ => 0))) zeroDig (yC 64 (fun _ => 0)) rfl ?_; intro db w4 hdb BD k4))
      go_meet
      case rel => exact ⟨BB6, BR6, ((C3.trans1 k4).new k5 (by have := C3.size; omega)).new k6 HRK.out.2.2⟩
    · have hI : ¬ (128 : Int) < (n : Int) := by omega
      have HQ : Hid (yC 128 (lay (fun _ => 0) 0 n kf) = yC 128 KB ∧ n ≤ 128 ∧ n = Nat.min n 128) := ⟨HK2.out h128, by omega, by show n = min n 128; omega⟩
      have HS2 : Hid (Se w2 (.slice p0 n c0) n kf) := HK.out.1.chg C2
      clear h128
      go_wp2_with (refine copy_z rfl (.tmp 21) (.tmp 22) 22 22 rfl 5 Tryd.underlying22 u8Info kk 0 128 128 p0 n c0 rfl rfl #[] 128 (fun _ => 0) #[] 5 BB0.seg 0 n kf (fun _ => rfl) HQ.out.2.2 (fun h0 => by obtain ⟨g, o, e, hb⟩ := HS2.out.src h0; exact ⟨g, o, e, hb.cell⟩) (by have := HQ.out; omega) ?_; intro w6 BB6 k6; have BR6 := BR2.chg k6 (by have := HRK.out; simp; omega); replace BB6 := BB6.unseg; rw [HQ.out.1] at BB6; simp only [Act.put, List.setIfInBounds_toArray, List.set_cons_zero, List.set_cons_succ])
      go_meet
      case rel => exact ⟨BB6, BR6, C2.new k6 HRK.out.2.2⟩
  case rest =>
    obtain ⟨BB, BR, C⟩ := hcut
    obtain ⟨w3, hw3⟩ : ∃ z, z = wc := ⟨wc, rfl⟩
    subst hw3
    have HB3 : Hid (kk < w3.heap.size ∧ rb < w3.heap.size ∧ w.heap.size ≤ w3.heap.size) := ⟨BB.lt, BR.lt, C.size⟩
    have O1 : Own w3 w3.heap.size (.slice none 0 0) 0 (mk 54 KB) := Own.nil _ _ _
    have O2 : Own w3 w3.heap.size (.slice none 0 0) 0 (mk 92 KB) := Own.nil _ _ _
    clear BB0 BR2 C2 HK1 HK2
    go_wp2_with fail
    go_loopw [9, 7, 8] (fun t ti tu wr => ∃ i : Nat, i ≤ 128 ∧ t = .int .i64 (i : Int) ∧ Own wr w3.heap.size ti i (mk 54 KB) ∧ Own wr w3.heap.size tu i (mk 92 KB) ∧ (∀ x, x ∈ ob ti → ¬ x ∈ ob tu) ∧ Blk wr kk (yC 128 KB) 5 ∧ Blk wr rb (yC 64 (fun _ => 0)) 47 ∧ Chg w wr [] ∧ w3.heap.size ≤ wr.heap.size) (fun t _ _ _ => (128 - intOf t).toNat)
    case atStart => exact ⟨0, by omega, rfl, O1, O2, fun x hx => by simp [ob, Value.ownBlock] at hx, BB, BR, C, Nat.le_refl _⟩
    case round =>
      clear O1 O2 BB BR C
      obtain ⟨i, hi, rfl, O1, O2, hap, BB, BR, C, hsz⟩ := hrel
      obtain ⟨pi, ci, rfl⟩ := O1.len
      obtain ⟨po, co, rfl⟩ := O2.len
      have HAP : Hid (∀ x, x ∈ ob (.slice pi i ci) → ¬ x ∈ ob (.slice po i co)) := hap
      have HSZ : Hid (w3.heap.size ≤ wr.heap.size) := hsz
      have HO1 : Hid (Own wr w3.heap.size (.slice pi i ci) i (mk 54 KB)) := O1
      have HO2 : Hid (Own wr w3.heap.size (.slice po i co) i (mk 92 KB)) := O2
      clear hap hsz O1 O2
      by_cases h8 : i < 128
      · have hI : (i : Int) < 128 := by omega
        have hI0 : (0 : Int) ≤ (i : Int) := by omega
        have e1 : IntKind.i64.wrap ((i : Int) + 1) = (i : Int) + 1 := by rw [IntKind.wrap_i64]; omega
        have cx := (BB.cell i).trans (yC_get 128 _ i h8)
        have ex : bits .xor .u8 ((KB i : Nat) : Int) 54 = ((mk 54 KB i : Nat) : Int) := u8_xor_nat _ 54 (HKL.out i) (by omega)
        have ey : bits .xor .u8 ((KB i : Nat) : Int) 92 = ((mk 92 KB i : Nat) : Int) := u8_xor_nat _ 92 (HKL.out i) (by omega)
        have HX : Hid (mk 54 KB i < 256 ∧ mk 92 KB i < 256) := ⟨mk_lt (by omega) (HKL.out i), mk_lt (by omega) (HKL.out i)⟩
        obtain ⟨X, hX⟩ : ∃ z, mk 54 KB i = z := ⟨_, rfl⟩
        obtain ⟨Y, hY⟩ : ∃ z, mk 92 KB i = z := ⟨_, rfl⟩
        have HXY : Hid (mk 54 KB i = X ∧ mk 92 KB i = Y) := ⟨hX, hY⟩
        rw [hX] at ex HX
        rw [hY] at ey HX
        have HI : Hid (i < 128 ∧ i + 1 ≤ 128) := ⟨h8, by omega⟩
        have HI1 : Hid (i + 1 ≤ 140737488355328) := by show i + 1 ≤ _; omega
        have HC : Hid (Chg w wr []) := C
        clear hi h8 hX hY C
        have BX := Blk.new wr #[.int .u8 (X : Int)] 5
        have k4 := (Chg.refl wr []).alloc (.cells #[.int .u8 (X : Int)] 5)
        have SX : Se (wr.alloc (.cells #[.int .u8 (X : Int)] 5)) (.slice (some ⟨wr.heap.size, 0, none⟩) 1 1) 1 (fun _ => X) := Or.inl (Blk.slT (N := 1) (t := fun _ => X) BX (fun _ _ => HX.out.1) (by omega))
        have OX := HO1.out.chg k4 (by simp)
        have HZ4 : Hid (w3.heap.size ≤ (wr.alloc (.cells #[.int .u8 (X : Int)] 5)).heap.size) := Nat.le_trans HSZ.out k4.size
        go_upto_region 12 with (refine append_x rfl (.tmp 28) (.tmp 34) rfl w3.heap.size (.slice pi i ci) (.slice (some ⟨wr.heap.size, 0, none⟩) 1 1) i 1 (mk 54 KB) (fun _ => X) rfl rfl OX SX HI1.out HZ4.out ?_; intro a1 w5 O5 k5 h5)
        generalize wr.alloc (.cells #[.int .u8 (X : Int)] 5) = w4 at *
        have HG1 : Hid (∀ x, x ∈ ob (.slice pi i ci) → w3.heap.size ≤ x ∧ x < wr.heap.size) := fun x hx => HO1.out.ob_ge x hx
        have HG2 : Hid (∀ x, x ∈ ob (.slice po i co) → w3.heap.size ≤ x ∧ x < wr.heap.size) := fun x hx => HO2.out.ob_ge x hx
        have O5' : Own w5 w3.heap.size a1 (i + 1) (mk 54 KB) := by
          have q := O5
          rw [← HXY.out.1] at q
          exact q.cong (cat_self1 (mk 54 KB) i)
        have P5 : Own w5 w3.heap.size (.slice po i co) i (mk 92 KB) := (HO2.out.chg k4 (by simp)).chg k5 (fun x hx hy => HAP.out x hy hx)
        have BB5 := (BB.chg k4 (by simp)).chg k5 (fun hx => by have := HG1.out _ hx; have := HB3.out; omega)
        have BR5 := (BR.chg k4 (by simp)).chg k5 (fun hx => by have := HG1.out _ hx; have := HB3.out; omega)
        have C5 : Chg w w5 [] := (HC.out.trans1 k4).trans k5 (fun x hx => Or.inr (by have := HG1.out x hx; have := HB3.out; omega))
        have HA5 : Hid (∀ x, x ∈ ob a1 → ¬ x ∈ ob (.slice po i co)) := fun x hx hy => by
          rcases h5 x hx with h | h
          · exact HAP.out x h hy
          · have := HG2.out x hy; have := k4.size; omega
        have HS5 : Hid (w3.heap.size ≤ w5.heap.size ∧ wr.heap.size ≤ w5.heap.size) := by have := k4.size; have := k5.size; have := HSZ.out; exact ⟨by omega, by omega⟩
        obtain ⟨pa, ca, rfl⟩ := O5'.len
        have cx5 := (BB5.cell i).trans (yC_get 128 _ i HI.out.1)
        have HO5 : Hid (Own w5 w3.heap.size (.slice pa (i + 1) ca) (i + 1) (mk 54 KB)) := O5'
        have HP5 : Hid (Own w5 w3.heap.size (.slice po i co) i (mk 92 KB)) := P5
        clear O5 O5' P5 k4 k5 h5 BX SX OX HZ4 BB BR cx ex
        have BY := Blk.new w5 #[.int .u8 (Y : Int)] 5
        have k6 := (Chg.refl w5 []).alloc (.cells #[.int .u8 (Y : Int)] 5)
        have SY : Se (w5.alloc (.cells #[.int .u8 (Y : Int)] 5)) (.slice (some ⟨w5.heap.size, 0, none⟩) 1 1) 1 (fun _ => Y) := Or.inl (Blk.slT (N := 1) (t := fun _ => Y) BY (fun _ _ => HX.out.2) (by omega))
        have OY := HP5.out.chg k6 (by simp)
        have HZ6 : Hid (w3.heap.size ≤ (w5.alloc (.cells #[.int .u8 (Y : Int)] 5)).heap.size) := Nat.le_trans HS5.out.1 k6.size
        go_wp2_with (refine append_x rfl (.tmp 36) (.tmp 42) rfl w3.heap.size (.slice po i co) (.slice (some ⟨w5.heap.size, 0, none⟩) 1 1) i 1 (mk 92 KB) (fun _ => Y) rfl rfl OY SY HI1.out HZ6.out ?_; intro a2 w7 O7 k7 h7)
        generalize w5.alloc (.cells #[.int .u8 (Y : Int)] 5) = w6 at *
        have O7' : Own w7 w3.heap.size a2 (i + 1) (mk 92 KB) := by
          have q := O7
          rw [← HXY.out.2] at q
          exact q.cong (cat_self1 (mk 92 KB) i)
        have P7 := (HO5.out.chg k6 (by simp)).chg k7 (fun x hx hy => HA5.out x hx hy)
        have BB7 := (BB5.chg k6 (by simp)).chg k7 (fun hx => by have := HG2.out _ hx; have := HB3.out; omega)
        have BR7 := (BR5.chg k6 (by simp)).chg k7 (fun hx => by have := HG2.out _ hx; have := HB3.out; omega)
        have C7 : Chg w w7 [] := (C5.trans1 k6).trans k7 (fun x hx => Or.inr (by have := HG2.out x hx; have := HB3.out; omega))
        have HA7 : Hid (∀ x, x ∈ ob (.slice pa (i + 1) ca) → ¬ x ∈ ob a2) := fun x hx hy => by
          rcases h7 x hy with h | h
          · exact HA5.out x hx h
          · have := (HO5.out.ob_ge x hx).2; have := k6.size; omega
        exact ⟨⟨i + 1, HI.out.2, by go_num, P7, O7', HA7.out, BB7, BR7, C7, by have := HS5.out; have := k6.size; have := k7.size; omega⟩, by have := HI.out; simp [intOf]; omega⟩
      · have hI : ¬ (i : Int) < 128 := by omega
        obtain rfl : i = 128 := by omega
        obtain ⟨w4, hw4⟩ : ∃ z, z = wr := ⟨wr, rfl⟩
        subst hw4
        have O1' : Own w4 w3.heap.size (.slice pi 128 ci) (128 + cN pn 0) (cat (mk 54 KB) 128 (cF pn pf 0)) := HO1.out.cong fun j hj => by unfold cat; rw [if_pos hj]
        clear hi h8 BB
        go_wp2_with fail
        go_loopw [10, 7] (fun t ti wr => ∃ i : Nat, i ≤ k ∧ t = .int .i64 (i : Int) ∧ Own wr w3.heap.size ti (128 + cN pn i) (cat (mk 54 KB) 128 (cF pn pf i)) ∧ Own wr w3.heap.size (.slice po 128 co) 128 (mk 92 KB) ∧ (∀ x, x ∈ ob ti → ¬ x ∈ ob (.slice po 128 co)) ∧ Blk wr rb (yC 64 (fun _ => 0)) 47 ∧ Chg w wr [] ∧ w3.heap.size ≤ wr.heap.size) (fun t _ _ => ((k : Int) - intOf t).toNat)
        case atStart => exact ⟨0, by omega, rfl, O1', HO2.out, HAP.out, BR, C, HSZ.out⟩
        case round =>
          clear O1' BR C
          obtain ⟨i, hi, rfl, O1, O2, hap, BR, C, hsz⟩ := hrel
          obtain ⟨T, hT⟩ : ∃ z, 128 + cN pn i = z := ⟨_, rfl⟩
          obtain ⟨F, hF⟩ : ∃ z, cat (mk 54 KB) 128 (cF pn pf i) = z := ⟨_, rfl⟩
          have HTF : Hid (128 + cN pn i = T ∧ cat (mk 54 KB) 128 (cF pn pf i) = F) := ⟨hT, hF⟩
          rw [hT, hF] at O1
          obtain ⟨pj, cj, rfl⟩ := O1.len
          have HQ1 : Hid (Own wr w3.heap.size (.slice pj T cj) T F) := O1
          have HQ2 : Hid (Own wr w3.heap.size (.slice po 128 co) 128 (mk 92 KB)) := O2
          have HAQ : Hid (∀ x, x ∈ ob (.slice pj T cj) → ¬ x ∈ ob (.slice po 128 co)) := hap
          have HSQ : Hid (w3.heap.size ≤ wr.heap.size) := hsz
          have HGQ : Hid (∀ x, x ∈ ob (.slice pj T cj) → w3.heap.size ≤ x ∧ x < wr.heap.size) := fun x hx => HQ1.out.ob_ge x hx
          clear O1 O2 hap hsz hT hF
          by_cases h8 : i < k
          · have hI : (i : Int) < (k : Int) := by omega
            have hI0 : (0 : Int) ≤ (i : Int) := by omega
            have e1 : IntKind.i64.wrap ((i : Int) + 1) = (i : Int) + 1 := by rw [IntKind.wrap_i64]; omega
            have HI : Hid (i + 1 ≤ k ∧ i < k) := ⟨by omega, h8⟩
            have HPW := HP.out.1.chg C
            obtain ⟨g4, o4, rfl, cx⟩ := HPW.cell h8
            have HSE : Hid (Se wr (pv i) (pn i) (pf i)) := HPW.1 i h8
            have HSM : Hid (T + pn i ≤ 140737488355328) := by
              have q : cN pn (i + 1) ≤ cN pn k := cN_mono pn (by omega)
              have := HP.out.2
              have q2 : cN pn (i + 1) = cN pn i + pn i := rfl
              have := HTF.out.1
              show T + pn i ≤ 140737488355328
              omega
            clear h8 hi HPW
            go_wp2_with (refine append_x rfl (.tmp 50) (.tmp 54) rfl w3.heap.size (.slice pj T cj) (pv i) T (pn i) F (pf i) rfl rfl HQ1.out HSE.out HSM.out HSQ.out ?_; intro a1 w5 O5 k5 h5)
            have O5' : Own w5 w3.heap.size a1 (128 + cN pn (i + 1)) (cat (mk 54 KB) 128 (cF pn pf (i + 1))) := by
              have q := O5
              rw [← HTF.out.1, ← HTF.out.2, catA] at q
              exact (show 128 + cN pn (i + 1) = 128 + cN pn i + pn i by show 128 + (cN pn i + pn i) = _; omega) ▸ q
            have P5 := HQ2.out.chg k5 (fun x hx hy => HAQ.out x hy hx)
            have BR5 := BR.chg k5 (fun hx => by have := HGQ.out _ hx; have := HB3.out; omega)
            have C5 : Chg w w5 [] := C.trans k5 (fun x hx => Or.inr (by have := HGQ.out x hx; have := HB3.out; omega))
            have HA5 : Hid (∀ x, x ∈ ob a1 → ¬ x ∈ ob (.slice po 128 co)) := fun x hx hy => by
              rcases h5 x hx with h | h
              · exact HAQ.out x h hy
              · have := (HQ2.out.ob_ge x hy).2; omega
            exact ⟨⟨i + 1, HI.out.1, by go_num, O5', P5, HA5.out, BR5, C5, by have := HSQ.out; have := k5.size; omega⟩, by have := HI.out; simp [intOf]; omega⟩
          · have hI : ¬ (i : Int) < (k : Int) := by omega
            obtain rfl : i = k := by omega
            have HTM : Hid (T ≤ 140737488355328) := by have := HP.out.2; have := HTF.out.1; show T ≤ _; omega
            have HD : Hid (sha (cat (mk 92 KB) 128 (sha F T)) (128 + 64) = D) := by
              have q := HMAC.out
              rw [HTF.out.1, HTF.out.2] at q
              exact q.symm
            clear hi h8
            go_wp2_with fail
            refine (Sum_r _ T F wr HTM.out HQ1.out.sl).mono ?_
            rintro e w5 ⟨rfl, k5⟩
            obtain ⟨SH, hSH⟩ : ∃ z, sha F T = z := ⟨_, rfl⟩
            have HSH : Hid (∀ i, SH i < 256) := fun i => by rw [← hSH]; exact sha_lt _ _ _
            rw [hSH] at HD ⊢
            have HQ5 : Hid (Own w5 w3.heap.size (.slice po 128 co) 128 (mk 92 KB)) := HQ2.out.chg k5 (by simp)
            have BR5 := BR.chg k5 (by simp)
            have C5 := C.trans1 k5
            have HS5 : Hid (w3.heap.size ≤ w5.heap.size ∧ rb < w5.heap.size) := ⟨Nat.le_trans HSQ.out k5.size, BR5.lt⟩
            clear hSH k5 BR C
            go_upto_region 19 with (first
              | (refine append_x rfl (.tmp 58) (.tmp 59) rfl w3.heap.size (.slice po 128 co) (.slice (some ⟨db, 0, none⟩) 64 64) 128 64 (mk 92 KB) SH rfl rfl OQ (Or.inl (BD7.slT (fun i _ => HSH.out i) (by omega))) (by omega) (by have := k6.size; have := k7.size; have := HS5.out; omega) ?_; intro a1 w8 O8 k8 h8)
              | (refine store_w BD rfl 47 _ _ (yC 64 SH) rfl rfl rfl (by rw [yC_size]; exact digInfo) (by rw [yC_size, yC_size]) (yC_one 64 _) ?_; intro w7 BD7 k7; have OQ := (HQ5.out.chg k6 (by simp)).chg k7 (fun x hx hy => by have := (HQ5.out.ob_ge x hx).2; simp at hy; omega))
              | (with_reducible refine alloc_w rfl 47 rfl (.agg (yC 64 (fun _ => 0))) zeroDig (yC 64 (fun _ => 0)) rfl ?_; intro db w6 hdb BD k6))
            have HG8 : Hid (∀ x, x ∈ ob (.slice po 128 co) → w3.heap.size ≤ x) := fun x hx => (HQ5.out.ob_ge x hx).1
            have BR8 := ((BR5.chg k6 (by simp)).chg k7 (by have := HS5.out; simp; omega)).chg k8 (fun hx => by have := HG8.out _ hx; have := HB3.out; omega)
            have C8 : Chg w w8 [] := ((C5.trans1 k6).new k7 (by have := C5.size; omega)).trans k8 (fun x hx => Or.inr (by have := HG8.out x hx; have := HB3.out; omega))
            clear k6 k7 k8 h8 BD BD7 OQ hdb BR5 C5
            obtain ⟨pz, cz, rfl⟩ := O8.len
            go_wp2_with fail
            refine (Sum_r _ (128 + 64) (cat (mk 92 KB) 128 SH) w8 (by omega) O8.sl).mono ?_
            rintro e w9 ⟨rfl, k9⟩
            rw [HD.out]
            have BR9 := BR8.chg k9 (by simp)
            have C9 := C8.trans1 k9
            clear k9 BR8 C8
            go_wp2_with (refine store_w BR9 rfl 47 _ _ (yC 64 D) rfl rfl rfl (by rw [yC_size]; exact digInfo) (by rw [yC_size, yC_size]) (yC_one 64 _) ?_; intro w10 BR10 k10)
            exact bodyPost_ret (results_cell_row Tryd.results13 _ _ rb 47 (yC 64 D) (0, 0) _ rfl BR10 Tryd.underlying47 rfl (by rw [yC_size]; exact digInfo)) rfl ⟨rfl, C9.new k10 HRK.out.1⟩
set_option maxHeartbeats 4000000 in
set_option maxRecDepth 100000 in
theorem Extract_r (sv kv : Value) (n : Nat) (f : Nat → Nat) (m : Nat) (g : Nat → Nat) (w : World) (hs : Se w sv n f) (hn : n ≤ 140737488355328) (hk : Se w kv m g) (hm : m ≤ 70368744177664) :
    Calls Tryd.prog 15 #[sv, kv] w fun e w' => e = .returned (.agg (yC 64 (mac n f m g))) ∧ Chg w w' [] := by
  obtain ⟨p0, c0, rfl⟩ := hs.form
  obtain ⟨p1, c1, rfl⟩ := hk.form
  have HS : Hid (Se w (.slice p0 n c0) n f ∧ n ≤ 140737488355328) := ⟨hs, hn⟩
  have HK : Hid (Se w (.slice p1 m c1) m g ∧ m ≤ 70368744177664) := ⟨hk, hm⟩
  obtain ⟨D, hD⟩ : ∃ z, mac n f m g = z := ⟨_, rfl⟩
  have HD : Hid (mac n f m g = D) := hD
  rw [hD]
  obtain ⟨ib, hib, hibz, hibs, _⟩ := bytesRow
  clear hs hn hk hm hD
  go_enter Tryd.func15, Tryd.ntmps15
  go_wp2_with (first
    | (with_reducible refine bsl_w ?_ 23 22 1 #[(0, .tmp 6)] ?_ [(0, .slice p1 m c1)] ?_ #[.slice p1 m c1] ib (.slice none 0 0) Tryd.underlying23 hib hibz 1 hibs ?_ ?_ (fillS1 _ _ _) ?_
       · rfl
       · rfl
       · simp [Act.eval]
       · omega
       · omega
       intro lb w2 hlb BL k2)
    | (with_reducible refine alloc_w rfl 47 rfl (.agg (yC 64 (fun _ => 0))) zeroDig (yC 64 (fun _ => 0)) rfl ?_; intro rb w1 hrb BR k1))
  have C2 := k1.trans1 k2
  refine (MAC_r _ n f _ 1 _ _ _ w2 (HS.out.1.chg C2) HS.out.2 (Ps.mk1 BL (HK.out.1.chg C2)) (by rw [cN_1]; exact HK.out.2)).mono ?_
  rintro e w3 ⟨rfl, k3⟩
  rw [cN_1, cF_1, HD.out]
  have BR3 := (BR.chg k2 (by simp)).chg k3 (by simp)
  have C3 := C2.trans1 k3
  go_wp2_with (refine store_w BR3 rfl 47 _ _ (yC 64 D) rfl rfl rfl (by rw [yC_size]; exact digInfo) (by rw [yC_size, yC_size]) (yC_one 64 _) ?_; intro w10 BR10 k10)
  exact bodyPost_ret (results_cell_row Tryd.results15 _ _ rb 47 (yC 64 D) (0, 0) _ rfl BR10 Tryd.underlying47 rfl (by rw [yC_size]; exact digInfo)) rfl ⟨rfl, C3.new k10 hrb⟩
end Go.Proofs.YthpfdnkcepfbaaaDoor
