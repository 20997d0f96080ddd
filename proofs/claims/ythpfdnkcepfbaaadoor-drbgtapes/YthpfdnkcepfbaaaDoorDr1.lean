/- drbg: a key as a block; a block masked. -/
import Derived.Test.YthpfdnkcepfbaaaDoorMgM
import Derived.Test.YthpfdnkcepfbaaaDoorMgH
import Derived.Test.YthpfdnkcepfbaaaDoorMgB
set_option linter.unusedVariables false
set_option linter.unusedSimpArgs false
set_option linter.unnecessarySimpa false
namespace Go.Proofs.YthpfdnkcepfbaaaDoor
open Go.RowKit

/-- A key as a block of 128 bytes. -/
def kb (n : Nat) (f : Nat → Nat) : Nat → Nat := fun j => if 128 < n then (if j < 64 then sha f n j else 0) else if j < n then f j else 0
/-- A block masked. -/
def mk (m : Nat) (b : Nat → Nat) : Nat → Nat := fun j => b j ^^^ m
/-- The keyed digest of N bytes F, the key being the block b. -/
def macb (b : Nat → Nat) (N : Nat) (F : Nat → Nat) : Nat → Nat := sha (cat (mk 92 b) 128 (sha (cat (mk 54 b) 128 F) (128 + N))) 192
def mac (n : Nat) (f : Nat → Nat) (N : Nat) (F : Nat → Nat) : Nat → Nat := macb (kb n f) N F
theorem sha_lt (f : Nat → Nat) (N j : Nat) : sha f N j < 256 := by unfold sha dig; exact Nat.mod_lt _ (by decide)
theorem mac_lt (n : Nat) (f : Nat → Nat) (N : Nat) (F : Nat → Nat) (j : Nat) : mac n f N F j < 256 := sha_lt _ _ _
theorem kb_lt {n : Nat} {f : Nat → Nat} (h : ∀ i, i < n → f i < 256) (j : Nat) : kb n f j < 256 := by
  unfold kb
  split
  · split
    · exact sha_lt _ _ _
    · omega
  · split
    · exact h j (by assumption)
    · omega
theorem mk_lt {m : Nat} {b : Nat → Nat} (hm : m < 256) {j : Nat} (h : b j < 256) : mk m b j < 256 := Nat.xor_lt_two_pow (n := 8) h hm
def mkI (m : Nat) (b : Nat → Nat) (i : Nat) : Nat → Nat := fun j => if j < i then b j ^^^ m else b j
theorem mkI_up (m : Nat) (b : Nat → Nat) (i : Nat) : up (mkI m b i) i (b i ^^^ m) = mkI m b (i + 1) := by
  funext j
  unfold up mkI
  by_cases h : j = i
  · subst h; rw [if_pos rfl, if_pos (by omega)]
  · rw [if_neg h]
    by_cases h2 : j < i
    · rw [if_pos h2, if_pos (by omega)]
    · rw [if_neg h2, if_neg (by omega)]
theorem mkI_0 (m : Nat) (b : Nat → Nat) : mkI m b 0 = b := by funext j; unfold mkI; rw [if_neg (by omega)]
theorem mkI_end (m : Nat) (b : Nat → Nat) : yC 128 (mkI m b 128) = yC 128 (mk m b) := yC_eq fun i hi => by unfold mkI mk; rw [if_pos hi]
theorem mkI_at (m : Nat) (b : Nat → Nat) (i : Nat) : mkI m b i i = b i := by unfold mkI; rw [if_neg (by omega)]
theorem padInfo : (Tryd.prog.info? 103).map (·.size) = some 128 := by kernel_rfl
theorem zeroPad : (Tryd.prog.info? 103).bind (·.zero) = some (.agg (yC 128 (fun _ => 0))) := by kernel_rfl
theorem zeroDig : (Tryd.prog.info? 47).bind (·.zero) = some (.agg (yC 64 (fun _ => 0))) := by kernel_rfl
theorem digInfo : (Tryd.prog.info? 47).map (·.size) = some 64 := by kernel_rfl
theorem Blk.seg {w : World} {g N : Nat} {t : Nat → Nat} {T : TypeId} (h : Blk w g (yC N t) T) : Blk w g (#[] ++ (yC N t ++ #[])) T := by simpa using h
theorem Blk.unseg {w : World} {g N : Nat} {t : Nat → Nat} {T : TypeId} (h : Blk w g (#[] ++ (yC N t ++ #[])) T) : Blk w g (yC N t) T := by simpa using h
theorem Blk.bs {w : World} {g N : Nat} {t : Nat → Nat} {T : TypeId} (h : Blk w g (yC N t) T) (ht : ∀ i, i < N → t i < 256) : Bs w g 0 N t :=
  ⟨h.lt, ht, fun i hi => by rw [Nat.zero_add, h.cell, yC_get _ _ _ hi]⟩
theorem Blk.slT {w : World} {g N : Nat} {t : Nat → Nat} {T : TypeId} (h : Blk w g (yC N t) T) (ht : ∀ i, i < N → t i < 256) (hN : N ≤ 9223372036854775807) : Sl w (.slice (some ⟨g, 0, none⟩) N N) N t :=
  Or.inr ⟨g, 0, N, rfl, Nat.le_refl _, hN, h.bs ht⟩
theorem Se.form {w : World} {v : Value} {n : Nat} {f : Nat → Nat} (h : Se w v n f) : ∃ p c, v = .slice p n c := by
  rcases h with (⟨rfl, rfl⟩ | ⟨g, o, c, rfl, _⟩) | ⟨rfl, a, rfl⟩
  · exact ⟨_, _, rfl⟩
  · exact ⟨_, _, rfl⟩
  · exact ⟨_, _, rfl⟩
theorem Se.src {w : World} {p : Option Addr} {c n : Nat} {f : Nat → Nat} (h : Se w (.slice p n c) n f) (h0 : 0 < n) : ∃ g o, p = some ⟨g, o, none⟩ ∧ Bs w g o n f := by
  rcases h with (⟨rfl, _⟩ | ⟨g, o, c', e, _, _, hb⟩) | ⟨rfl, _⟩
  · omega
  · simp only [Value.slice.injEq] at e
    exact ⟨g, o, e.1, hb⟩
  · omega
theorem Se.bd {w : World} {v : Value} {n : Nat} {f : Nat → Nat} (h : Se w v n f) : ∀ i, i < n → f i < 256 := by
  rcases h with (⟨rfl, rfl⟩ | ⟨g, o, c, rfl, _, _, hb⟩) | ⟨rfl, a, rfl⟩
  · intro i hi; omega
  · exact hb.bd
  · intro i hi; omega
/-- copy of bytes; how many were copied is a plain number. -/
theorem copy_z {P : Program} {w : World} {ops : Array Oper} {rest : List Oper} {o : Oper} {a : Act} {Q : Exit → Act → World → Prop} (hgd : o.guard = none) (d s : Operand) (dT sT : TypeId)
    (ho : o.op = .call { callee := .builtin .copy, args := #[d, s], argTypes := #[dT, sT] }) (elem : TypeId) (hu : P.underlying dT = some (.slice elem)) (hsz : (P.info? elem).map (·.size) = some 1)
    (g at' dLen dCap : Nat) (sp : Option Addr) (sLen sCap : Nat) (hd : a.eval d = .slice (some ⟨g, at', none⟩) dLen dCap) (hs : a.eval s = .slice sp sLen sCap)
    (pre : Array Value) (N : Nat) (t : Nat → Nat) (post : Array Value) (T : TypeId) (hg : Blk w g (pre ++ (yC N t ++ post)) T) (off n : Nat) (f : Nat → Nat) (hat : 0 < n → at' = pre.size + off) (hn : n = Nat.min sLen dLen)
    (hsrc : 0 < n → ∃ gs os, sp = some ⟨gs, os, none⟩ ∧ ∀ j, j < n → w.cell? ⟨gs, os + j, none⟩ = some (.int .u8 (f j))) (hfit : off + n ≤ N)
    (h : ∀ w', Blk w' g (pre ++ (yC N (lay t off n f) ++ post)) T → Chg w w' [g] → wpList P ops Q rest (a.put o.dst (.int .i64 (n : Int))) w') : wpList P ops Q (o :: rest) a w :=
  copy_y hgd d s dT sT ho elem hu hsz g at' dLen dCap sp sLen sCap hd hs pre N t post T hg off n f hat hn hsrc hfit fun w' B k => h w' B k
set_option maxHeartbeats 4000000 in
set_option maxRecDepth 100000 in
theorem masked_s (b : Nat → Nat) (m : Nat) (mi : Int) (hmi : mi = (m : Int)) (hb : ∀ j, j < 128 → b j < 256) (hm : m < 256) (w : World) :
    Calls Tryd.prog 44 #[.agg (yC 128 b), .int .u8 mi] w fun e w' => ∃ g, e = .returned (.slice (some ⟨g, 0, none⟩) 128 128) ∧ w.heap.size ≤ g ∧ Blk w' g (yC 128 (mk m b)) 103 ∧ Chg w w' [] := by
  subst hmi
  have HB : Hid ((∀ j, j < 128 → b j < 256) ∧ m < 256) := ⟨hb, hm⟩
  clear hb hm
  go_enter Tryd.func44, Tryd.ntmps44
  go_wp2_with (refine box_w rfl 103 _ rfl (yC 128 b) rfl ?_; intro g w1 hg B k1)
  go_loopw [6] (fun t wr => ∃ i : Nat, i ≤ 128 ∧ t = .int .i64 (i : Int) ∧ Blk wr g (yC 128 (mkI m b i)) 103 ∧ Chg w wr []) (fun t _ => (128 - intOf t).toNat)
  case atStart => exact ⟨0, by omega, rfl, by rw [mkI_0]; exact B, k1⟩
  case round =>
    obtain ⟨i, hi, rfl, A, c0⟩ := hrel
    by_cases h8 : i < 128
    · have hI : (i : Int) < 128 := by omega
      have e1 : IntKind.i64.wrap ((i : Int) + 1) = (i : Int) + 1 := by rw [IntKind.wrap_i64]; omega
      have cx := (A.cell i).trans (yC_get 128 _ i h8)
      rw [mkI_at] at cx
      have fx := A.frozen i
      have ex : bits .xor .u8 ((b i : Nat) : Int) ((m : Nat) : Int) = ((b i ^^^ m : Nat) : Int) := u8_xor_nat _ _ (HB.out.1 i h8) HB.out.2
      have A2 := (A.setCell i (.int .u8 ((b i ^^^ m : Nat) : Int))).to ((yC_set 128 _ i _).trans (congrArg (yC 128) (mkI_up m b i)))
      have C2 : Chg w (wr.setCell ⟨g, i, none⟩ (.int .u8 ((b i ^^^ m : Nat) : Int))) [] := c0.setNew hg i _
      have hr : Hid (128 - (i + 1) < 128 - i) := by show 128 - (i + 1) < 128 - i; omega
      go_wp2_with fail
      exact ⟨⟨i + 1, by omega, by go_num, A2, C2⟩, by simp [intOf]; omega⟩
    · obtain rfl : i = 128 := by omega
      rw [mkI_end] at A
      go_wp2_with fail
      go_ret
      exact ⟨g, rfl, hg, A, c0⟩
set_option maxHeartbeats 4000000 in
set_option maxRecDepth 100000 in
theorem padded_s (v : Value) (m : Nat) (f : Nat → Nat) (w : World) (hG : Gl w) (hv : Se w v m f) (hm : m < 18446744073709551616) :
    Calls Tryd.prog 39 #[v] w fun e w' => e = .returned (.agg (yC 128 (kb m f))) ∧ Chg w w' [] := by
  obtain ⟨p, c, rfl⟩ := hv.form
  by_cases h128 : 128 < m
  · have hI : (128 : Int) < (m : Int) := by omega
    have hs : Sl w (.slice p m c) m f := by
      rcases hv with h | ⟨rfl, _⟩
      · exact h
      · omega
    have HS : Hid (Sl w (.slice p m c) m f ∧ m < 18446744073709551616 ∧ Gl w) := ⟨hs, hm, hG⟩
    have HK : Hid (yC 128 (lay (fun _ => 0) 0 64 (sha f m)) = yC 128 (kb m f)) := yC_eq fun i hi => by
      unfold lay kb
      rw [if_pos h128]
      by_cases q : i < 64
      · rw [if_pos (by omega), if_pos q, Nat.sub_zero]
      · rw [if_neg (by omega), if_neg q]
    clear hs hv hm hG h128
    go_enter Tryd.func39, Tryd.ntmps39
    go_wp2_with (first
      | (have _h := BR; with_reducible refine alloc_w rfl 103 rfl (.agg (yC 128 (fun _ => 0))) zeroPad (yC 128 (fun _ => 0)) rfl ?_; intro bb w2 hbb BB k2)
      | (with_reducible refine alloc_w rfl 103 rfl (.agg (yC 128 (fun _ => 0))) zeroPad (yC 128 (fun _ => 0)) rfl ?_; intro rb w1 hrb BR k1))
    have K2 := k1.trans1 k2
    refine (Sum_s _ m f w2 (HS.out.2.2.chg K2 (by simp) (by simp)) (HS.out.1.chg K2 (Off.nil _)) HS.out.2.1).mono ?_
    rintro e w3 ⟨rfl, k3⟩
    have HN : Hid (rb < bb ∧ bb < w3.heap.size ∧ w.heap.size ≤ rb ∧ w.heap.size ≤ bb) := ⟨Nat.lt_of_lt_of_le BR.lt hbb, (BB.chg k3 (by simp)).lt, hrb, Nat.le_trans k1.size hbb⟩
    have BR3 := (BR.chg k2 (by simp)).chg k3 (by simp)
    have BB3 := BB.chg k3 (by simp)
    have K3 := K2.trans1 k3
    clear BR BB k1 k2 k3 hrb hbb K2
    go_wp2_with (first
      | (refine store_w BR6 rfl 103 _ _ (yC 128 (kb m f)) rfl rfl rfl (by rw [yC_size]; exact padInfo) (by rw [yC_size, yC_size]) (yC_one 128 _) ?_; intro w7 BR7 k7)
      | (with_reducible refine load_b BB6 103 (.tmp 3) Tryd.underlying103 ?_ ?_ ?_ ?_ ?_ ?_
         · rfl
         · rfl
         · rfl
         · rfl
         · (rw [yC_size]; exact padInfo))
      | (refine copy_z rfl (.tmp 11) (.tmp 12) 22 22 rfl 5 Tryd.underlying22 u8Info bb 0 128 128 (some ⟨db, 0, none⟩) 64 64 rfl rfl #[] 128 (fun _ => 0) #[] 103 BB5.seg 0 64 (sha f m) (fun _ => rfl) rfl (fun _ => ⟨db, 0, rfl, S5.cell⟩) (by omega) ?_; intro w6 BB6 k6; have BR6 := BR5.chg k6 (by have := HN.out; simp; omega); replace BB6 := BB6.unseg; rw [HK.out] at BB6; simp only [Act.put, List.setIfInBounds_toArray, List.set_cons_zero, List.set_cons_succ])
      | (refine store_w BD rfl 47 _ _ (yC 64 (sha f m)) rfl rfl rfl (by rw [yC_size]; exact digInfo) (by rw [yC_size, yC_size]) (yC_one 64 _) ?_; intro w5 BD5 k5; have BB5 := (BB3.chg k4 (by simp)).chg k5 (by have := HN.out; simp; omega); have BR5 := (BR3.chg k4 (by simp)).chg k5 (by have := HN.out; simp; omega); have S5 := BD5.bs (fun i _ => sha_lt f m i))
      | (with_reducible refine alloc_w rfl 47 rfl (.agg (yC 64 (fun _ => 0))) zeroDig (yC 64 (fun _ => 0)) rfl ?_; intro db w4 hdb BD k4))
    have C : Chg w w7 [] := ((((K3.trans1 k4).new k5 (by have := K3.size; omega)).new k6 HN.out.2.2.2)).new k7 HN.out.2.2.1
    exact bodyPost_ret (results_cell_row Tryd.results39 _ _ rb 103 (yC 128 (kb m f)) (0, 0) _ rfl BR7 Tryd.underlying103 rfl (by rw [yC_size]; exact padInfo)) rfl ⟨rfl, C⟩
  · have hI : ¬ (128 : Int) < (m : Int) := by omega
    have HM : Hid (m ≤ 128) := by show m ≤ 128; omega
    have HK : Hid (yC 128 (lay (fun _ => 0) 0 m f) = yC 128 (kb m f)) := yC_eq fun i hi => by
      unfold lay kb
      rw [if_neg h128]
      by_cases q : i < m
      · rw [if_pos (by omega), if_pos q, Nat.sub_zero]
      · rw [if_neg (by omega), if_neg q]
    have HS : Hid (Se w (.slice p m c) m f) := hv
    have HMin : Hid (m = Nat.min m 128) := by show m = min m 128; omega
    clear hv hm hG h128
    go_enter Tryd.func39, Tryd.ntmps39
    go_wp2_with (first
      | (refine store_w BR6 rfl 103 _ _ (yC 128 (kb m f)) rfl rfl rfl (by rw [yC_size]; exact padInfo) (by rw [yC_size, yC_size]) (yC_one 128 _) ?_; intro w7 BR7 k7)
      | (with_reducible refine load_b BB6 103 (.tmp 3) Tryd.underlying103 ?_ ?_ ?_ ?_ ?_ ?_
         · rfl
         · rfl
         · rfl
         · rfl
         · (rw [yC_size]; exact padInfo))
      | (have HN : Hid (rb < bb ∧ w.heap.size ≤ rb ∧ w.heap.size ≤ bb) := ⟨Nat.lt_of_lt_of_le BR.lt hbb, hrb, Nat.le_trans k1.size hbb⟩; have S2 := HS.out.chg (k1.trans1 k2); refine copy_z rfl (.tmp 11) (.tmp 12) 22 22 rfl 5 Tryd.underlying22 u8Info bb 0 128 128 p m c rfl rfl #[] 128 (fun _ => 0) #[] 103 BB.seg 0 m f (fun _ => rfl) HMin.out (fun h0 => by obtain ⟨g, o, e, hb⟩ := S2.src h0; exact ⟨g, o, e, hb.cell⟩) (by have := HM.out; omega) ?_; intro w6 BB6 k6; have BR6 := (BR.chg k2 (by simp)).chg k6 (by have := HN.out; simp; omega); replace BB6 := BB6.unseg; rw [HK.out] at BB6; simp only [Act.put, List.setIfInBounds_toArray, List.set_cons_zero, List.set_cons_succ])
      | (have _h := BR; with_reducible refine alloc_w rfl 103 rfl (.agg (yC 128 (fun _ => 0))) zeroPad (yC 128 (fun _ => 0)) rfl ?_; intro bb w2 hbb BB k2)
      | (with_reducible refine alloc_w rfl 103 rfl (.agg (yC 128 (fun _ => 0))) zeroPad (yC 128 (fun _ => 0)) rfl ?_; intro rb w1 hrb BR k1))
    have C : Chg w w7 [] := (((k1.trans1 k2).new k6 HN.out.2.2)).new k7 HN.out.2.1
    exact bodyPost_ret (results_cell_row Tryd.results39 _ _ rb 103 (yC 128 (kb m f)) (0, 0) _ rfl BR7 Tryd.underlying103 rfl (by rw [yC_size]; exact padInfo)) rfl ⟨rfl, C⟩
end Go.Proofs.YthpfdnkcepfbaaaDoor
