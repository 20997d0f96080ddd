/- The Hasher's cells, copy, fill. -/
import Derived.Test.YtjcgjhncdaplcaaDoorH3
import Derived.Laws.CopyOwn
set_option linter.unusedVariables false
set_option linter.unusedSimpArgs false
set_option linter.unnecessarySimpa false
namespace Go.Proofs.YtjcgjhncdaplcaaDoor
open Go.RowKit

/-! ### Bytes within a block -/
theorem seg_get (pre : Array Value) (N : Nat) (t : Nat → Nat) (post : Array Value) (i : Nat) :
    (pre ++ (yC N t ++ post))[i]? = if i < pre.size then pre[i]? else if i - pre.size < N then some (.int .u8 (t (i - pre.size))) else post[i - pre.size - N]? := by
  by_cases h : i < pre.size
  · rw [if_pos h, Array.getElem?_append_left h]
  · rw [if_neg h, Array.getElem?_append_right (by omega)]
    by_cases h2 : i - pre.size < N
    · rw [if_pos h2, Array.getElem?_append_left (by rw [yC_size]; exact h2), yC_get _ _ _ h2]
    · rw [if_neg h2, Array.getElem?_append_right (by rw [yC_size]; omega), yC_size]
theorem seg_size (pre : Array Value) (N : Nat) (t : Nat → Nat) (post : Array Value) : (pre ++ (yC N t ++ post)).size = pre.size + (N + post.size) := by simp [yC_size]
/-- n bytes f laid over t at off. -/
def lay (t : Nat → Nat) (off n : Nat) (f : Nat → Nat) : Nat → Nat := fun j => if off ≤ j ∧ j < off + n then f (j - off) else t j
def yL (n : Nat) (f : Nat → Nat) : List Value := (List.range n).map fun i => Value.int .u8 (f i)
theorem yL_len (n : Nat) (f : Nat → Nat) : (yL n f).length = n := by simp [yL]
theorem yL_get (n : Nat) (f : Nat → Nat) (i : Nat) (h : i < n) : (yL n f)[i]? = some (.int .u8 (f i)) := by simp [yL, h]
theorem yL_some (n : Nat) (f : Nat → Nat) (i : Nat) (v : Value) (h : (yL n f)[i]? = some v) : i < n ∧ v = .int .u8 (f i) := by
  by_cases hi : i < n
  · rw [yL_get n f i hi] at h; simp at h; exact ⟨hi, h.symm⟩
  · rw [List.getElem?_eq_none (by rw [yL_len]; omega)] at h; simp at h
theorem yL_one (n : Nat) (f : Nat → Nat) : ∀ v ∈ yL n f, v.oneCell' = true := by
  intro v hv
  simp [yL] at hv
  obtain ⟨i, _, rfl⟩ := hv
  rfl
theorem yC_one (n : Nat) (f : Nat → Nat) : (yC n f).all (·.oneCell') = true := by simp [yC, Value.oneCell']
theorem vC_one (n : Nat) (f : Nat → Nat) : (vC n f).all (·.oneCell') = true := by simp [vC, Value.oneCell']
theorem lay_row (pre : Array Value) (N : Nat) (t : Nat → Nat) (post : Array Value) (off n : Nat) (f : Nat → Nat) (h : off + n ≤ N) :
    ((pre ++ (yC N t ++ post)).toList.take (pre.size + off) ++ (yL n f ++ (pre ++ (yC N t ++ post)).toList.drop (pre.size + off + n))).toArray = pre ++ (yC N (lay t off n f) ++ post) := by
  obtain ⟨cur, hcur⟩ : ∃ c, c = pre ++ (yC N t ++ post) := ⟨_, rfl⟩
  have hz : cur.size = pre.size + (N + post.size) := by rw [hcur, seg_size]
  have hl : cur.toList.length = cur.size := Array.length_toList
  rw [← hcur]
  apply Array.ext_getElem?
  intro i
  rw [seg_get, List.getElem?_toArray]
  by_cases h1 : i < pre.size + off
  · rw [List.getElem?_append_left (by rw [List.length_take]; omega), List.getElem?_take_of_lt h1, Array.getElem?_toList, hcur, seg_get]
    by_cases h2 : i < pre.size
    · rw [if_pos h2, if_pos h2]
    · rw [if_neg h2, if_neg h2, if_pos (by omega), if_pos (by omega)]
      unfold lay
      rw [if_neg (by omega)]
  · have ht : (cur.toList.take (pre.size + off)).length = pre.size + off := by rw [List.length_take]; omega
    rw [List.getElem?_append_right (by omega), ht]
    by_cases h2 : i < pre.size + off + n
    · rw [List.getElem?_append_left (by rw [yL_len]; omega), yL_get _ _ _ (by omega), if_neg (by omega), if_pos (by omega)]
      unfold lay
      rw [if_pos (by omega), show i - (pre.size + off) = i - pre.size - off from by omega]
    · rw [List.getElem?_append_right (by rw [yL_len]; omega), yL_len, List.getElem?_drop, Array.getElem?_toList, hcur, seg_get,
        show pre.size + off + n + (i - (pre.size + off) - n) = i from by omega]
      have h5 : ¬ i < pre.size := by omega
      simp only [if_neg h5]
      by_cases h3 : i - pre.size < N
      · rw [if_pos h3, if_pos h3]
        unfold lay
        rw [if_neg (by omega)]
      · rw [if_neg h3, if_neg h3]
theorem lay_zero (t : Nat → Nat) (off : Nat) (f : Nat → Nat) : lay t off 0 f = t := by
  funext j
  unfold lay
  rw [if_neg (by omega)]
theorem add_cell {w : World} {g o j : Nat} {v : Option Value} (h : w.cell? ⟨g, o + j, none⟩ = v) : w.cell? ((⟨g, o, none⟩ : Addr).add j) = v := by
  unfold Addr.add
  split
  · next e => subst e; simpa using h
  · exact h
/-- copy of bytes into a block's own bytes. -/
theorem copy_y {P : Program} {w : World} {ops : Array Oper} {rest : List Oper} {o : Oper} {a : Act} {Q : Exit → Act → World → Prop} (hgd : o.guard = none) (d s : Operand) (dT sT : TypeId)
    (ho : o.op = .call { callee := .builtin .copy, args := #[d, s], argTypes := #[dT, sT] }) (elem : TypeId) (hu : P.underlying dT = some (.slice elem)) (hsz : (P.info? elem).map (·.size) = some 1)
    (g at' dLen dCap : Nat) (sp : Option Addr) (sLen sCap : Nat) (hd : a.eval d = .slice (some ⟨g, at', none⟩) dLen dCap) (hs : a.eval s = .slice sp sLen sCap)
    (pre : Array Value) (N : Nat) (t : Nat → Nat) (post : Array Value) (T : TypeId) (hg : Blk w g (pre ++ (yC N t ++ post)) T) (off n : Nat) (f : Nat → Nat) (hat : 0 < n → at' = pre.size + off) (hn : n = Nat.min sLen dLen)
    (hsrc : 0 < n → ∃ gs os, sp = some ⟨gs, os, none⟩ ∧ ∀ j, j < n → w.cell? ⟨gs, os + j, none⟩ = some (.int .u8 (f j))) (hfit : off + n ≤ N)
    (h : ∀ w', Blk w' g (pre ++ (yC N (lay t off n f) ++ post)) T → Chg w w' [g] → wpList P ops Q rest (a.put o.dst (goInt n)) w') : wpList P ops Q (o :: rest) a w := by
  by_cases h0 : n = 0
  · subst h0
    refine wpList_copy_nothing hgd d s dT sT ho elem hu hsz _ _ _ _ _ _ hd hs hn.symm ?_
    exact h w (by rw [lay_zero]; exact hg) (Chg.refl w _)
  · obtain ⟨gs, os, rfl, hc⟩ := hsrc (by omega)
    obtain rfl := hat (by omega)
    have hk := wpList_copy_own (P := P) (w := w) (ops := ops) (rest := rest) (o := o) (a := a) (Q := Q) hgd d s dT sT ho elem hu hsz g (pre.size + off) dLen dCap ⟨gs, os, none⟩ sLen sCap hd hs _ T hg (yL n f) (by rw [yL_len]; exact hn)
      (fun j v hj => by obtain ⟨h1, rfl⟩ := yL_some n f j v hj; exact add_cell (hc j h1)) (by rw [yL_len, seg_size]; omega) (yL_one n f)
    rw [yL_len, lay_row pre N t post off n f hfit] at hk
    exact hk (h _ (hg.setRow _) ⟨rfl, rfl, rfl, by simp, fun k hk hl => setRow_other _ _ _ _ (by simpa using hl)⟩)

/-! ### fill -/
/-- How many bytes 0 lie between. -/
def zr (n : Nat) : Nat := (239 - n % 128) % 128
/-- The bytes that are laid behind n bytes. -/
def pdf (n : Nat) : Nat → Nat := pw (up (fun _ => 0) 0 128) (9 + zr n) (8 * n % 18446744073709551616)
set_option maxHeartbeats 4000000 in
set_option maxRecDepth 100000 in
theorem fill_s (g n : Nat) (w : World) (hn : U n) (hg : Blk w g (yC 144 fun _ => 0) 129) :
    Calls Tryd.prog 58 #[.pointer (some ⟨g, 0, none⟩), .int .u64 n] w fun e w' => e = .returned (.int .i64 ((17 + zr n : Nat) : Int)) ∧ Blk w' g (yC 144 (pdf n)) 129 ∧ Chg w w' [g] := by
  unfold U at hn
  have hz : zr n < 128 := Nat.mod_lt _ (by decide)
  obtain ⟨q, hq⟩ : ∃ q, 8 * n % 18446744073709551616 = q := ⟨_, rfl⟩
  have uq : U q := by rw [← hq]; exact Nat.mod_lt _ (by decide)
  have e1 : (IntKind.u64.wrap (111 - (n : Int))).tmod 128 = ((zr n : Nat) : Int) := by
    rw [IntKind.wrap_u64, Int.tmod_eq_emod_of_nonneg (by omega)]; unfold zr; omega
  have e2 : IntKind.u64.wrap (8 * (n : Int)) = (q : Int) := by rw [IntKind.wrap_u64]; omega
  have HP : Hid (pdf n = pw (up (fun _ => 0) 0 128) (9 + zr n) q) := by show pdf n = _; unfold pdf; rw [hq]
  generalize zr n = z at *
  clear hq
  have c0 := (hg.cell 0).trans (yC_get 144 _ 0 (by omega))
  have f0 := hg.frozen 0
  obtain ⟨p1, hp1⟩ : ∃ p, p = 1 + z := ⟨_, rfl⟩
  obtain ⟨p9, hp9⟩ : ∃ p, p = 9 + z := ⟨_, rfl⟩
  obtain ⟨p17, hp17⟩ : ∃ p, p = 17 + z := ⟨_, rfl⟩
  have a1 : IntKind.u64.wrap (1 + (z : Int)) = (p1 : Int) := by rw [IntKind.wrap_u64]; omega
  have a2 : IntKind.u64.wrap ((p1 : Int) + 8) = (p9 : Int) := by rw [IntKind.wrap_u64]; omega
  have a3 : IntKind.u64.wrap ((p1 : Int) + 16) = (p17 : Int) := by rw [IntKind.wrap_u64]; omega
  have a4 : IntKind.i64.wrap (p17 : Int) = (p17 : Int) := by rw [IntKind.wrap_i64]; omega
  have a5 : IntKind.i64.wrap (p9 : Int) = (p9 : Int) := by rw [IntKind.wrap_i64]; omega
  have hi : (p9 : Int) ≤ 144 := by omega
  rw [← hp17]
  rw [← hp9] at HP
  have H9 : p9 + 8 ≤ 144 := by omega
  clear hp1 hp9 hp17 hz
  go_enter Tryd.func58, Tryd.ntmps58
  go_wp2_with fail
  have k := (hg.setCell 0 (.int .u8 ((128 : Nat) : Int))).to (yC_set 144 _ 0 128)
  refine (putWord_s g p9 (144 - p9) (144 - p9) 144 _ q 129 _ (by omega) uq (by omega) k).mono ?_
  rintro e v1 ⟨rfl, k1, c1⟩
  go_wp2_with fail
  go_ret
  refine ⟨rfl, by rw [HP.out]; exact k1, ?_⟩
  exact ((Chg.refl w [g]).setIn (by simp) _ _).trans1 c1
end Go.Proofs.YtjcgjhncdaplcaaDoor
