/- Bytes copied into 32 zeros. -/
import Derived.Test.YthpfdnkcepfbaaaDoorFun2
import Derived.Laws.CopyOwn
set_option linter.unusedVariables false
set_option linter.unusedSimpArgs false
set_option linter.unnecessarySimpa false
namespace Go.Proofs.YthpfdnkcepfbaaaDoor
open Go.RowKit N

theorem nb_get (b : Nat → Nat) : ∀ (m k i : Nat), (∀ j, k ≤ j → j < k + m → b j < 256) → nb b k m / 256 ^ i % 256 = if i < m then b (k + i) else 0
  | 0, k, i, _ => by simp [nb]
  | m + 1, k, 0, h => by
    have := h k (Nat.le_refl _) (by omega)
    simp [nb]
    omega
  | m + 1, k, i + 1, h => by
    have h0 := h k (Nat.le_refl _) (by omega)
    have ih := nb_get b m (k + 1) i (fun j h1 h2 => h j (by omega) (by omega))
    unfold nb
    rw [Nat.pow_succ, Nat.mul_comm (256 ^ i), ← Nat.div_div_eq_div_mul, Nat.add_mul_div_left _ _ (by decide), Nat.div_eq_of_lt h0, Nat.zero_add, ih]
    simp only [Nat.add_lt_add_iff_right]
    rw [show k + 1 + i = k + (i + 1) by omega]
theorem nb_lt (b : Nat → Nat) : ∀ (m k : Nat), (∀ j, k ≤ j → j < k + m → b j < 256) → nb b k m < 256 ^ m
  | 0, k, _ => by simp [nb]
  | m + 1, k, h => by
    have h0 := h k (Nat.le_refl _) (by omega)
    have ih := nb_lt b m (k + 1) (fun j h1 h2 => h j (by omega) (by omega))
    unfold nb
    rw [Nat.pow_succ]
    omega
theorem nb_succ (b : Nat → Nat) (k m : Nat) : nb b k (m + 1) = b k + 256 * nb b (k + 1) m := rfl
theorem nb_add (b : Nat → Nat) : ∀ (m k n : Nat), nb b k (m + n) = nb b k m + 256 ^ m * nb b (k + m) n
  | 0, k, n => by simp [nb]
  | m + 1, k, n => by
    rw [show m + 1 + n = (m + n) + 1 by omega]
    rw [nb_succ, nb_succ, nb_add b m (k + 1) n, Nat.pow_succ, show k + 1 + m = k + (m + 1) by omega, Nat.mul_add, ← Nat.mul_assoc, Nat.mul_comm (256 ^ m) 256, Nat.add_assoc]
theorem by8_nat (n i : Nat) : by8 (n : Int) i = ((n / 256 ^ i % 256 : Nat) : Int) := by
  unfold by8
  rw [Int.natCast_emod, Int.natCast_ediv, Int.natCast_pow]
  rfl
/-- The cells of a piece. -/
def pieceL (b : Nat → Nat) (k m : Nat) : List Value := (List.range m).map fun i => .int .u8 ((b (k + i) : Nat) : Int)
theorem z32_list : z32.toList = List.replicate 32 (.int .u8 0) := by kernel_rfl
theorem piece_row (b : Nat → Nat) (k m : Nat) (hm : m ≤ 32) (h : ∀ j, k ≤ j → j < k + m → b j < 256) :
    (z32.toList.take 0 ++ (pieceL b k m ++ z32.toList.drop (0 + (pieceL b k m).length))).toArray = feC ((nb b k m : Nat) : Int) := by
  apply Array.ext_getElem?
  intro i
  have hl : (pieceL b k m).length = m := by simp [pieceL]
  by_cases hi : i < 32
  · rw [feC_get _ i hi, by8_nat, nb_get b m k i h]
    simp only [List.take_zero, List.nil_append, List.getElem?_toArray]
    by_cases him : i < m
    · rw [List.getElem?_append_left (by omega), if_pos him]
      simp [pieceL, him]
    · rw [List.getElem?_append_right (by omega), if_neg him, z32_list, hl]
      rw [List.getElem?_drop, List.getElem?_replicate, if_pos (by omega)]
      rfl
  · rw [Array.getElem?_eq_none (xs := feC _) (by rw [feC_size]; omega), Array.getElem?_eq_none]
    simp [hl, z32_list]
    omega
theorem piece_cell (b : Nat → Nat) (k m j : Nat) (v : Value) (h : (pieceL b k m)[j]? = some v) : j < m ∧ v = .int .u8 ((b (k + j) : Nat) : Int) := by
  unfold pieceL at h
  rw [List.getElem?_map] at h
  by_cases hj : j < m
  · rw [List.getElem?_range hj] at h
    simp at h
    exact ⟨hj, h.symm⟩
  · rw [List.getElem?_eq_none (by simp; omega)] at h
    simp at h
theorem piece_one (b : Nat → Nat) (k m : Nat) : ∀ v ∈ pieceL b k m, v.oneCell' = true := by
  intro v hv
  simp [pieceL] at hv
  obtain ⟨i, _, rfl⟩ := hv
  rfl
/-- copy, as one step of a region that draws its order: into a row that is known whole. -/
theorem step_copy {P : Program} {ops : Array Oper} {o : Oper} {a : Act} {w : World} {K : Act → World → Prop} {Q : Exit → Act → World → Prop} {E : Prop} (hgd : o.guard = none) (d s : Operand) (dT sT : TypeId)
    (ho : o.op = .call { callee := .builtin .copy, args := #[d, s], argTypes := #[dT, sT] }) (elem : TypeId) (hu : P.underlying dT = some (.slice elem)) (hsz : (P.info? elem).map (·.size) = some 1)
    (g dLen dCap : Nat) (ad : Addr) (sLen sCap : Nat) (hd : a.eval d = .slice (some ⟨g, 0, none⟩) dLen dCap) (hs : a.eval s = .slice (some ad) sLen sCap)
    (cur : Array Value) (t : TypeId) (hg : Blk w g cur t) (cs : List Value) (hn : cs.length = Nat.min sLen dLen)
    (hsrc : ∀ j v, cs[j]? = some v → w.cell? (ad.add j) = some v) (hfit : cs.length ≤ cur.size) (h1 : ∀ v ∈ cs, v.oneCell' = true) (row : Array Value)
    (hrow : (cur.toList.take 0 ++ (cs ++ cur.toList.drop (0 + cs.length))).toArray = row)
    (h : K (a.put o.dst (goInt cs.length)) (w.setRow g row)) :
    if Region.wanted o (yielded ops a.tmps) = true then Oper.wp P o a w K Q else E := by
  have hw : Region.wanted o (yielded ops a.tmps) = true := by simp [Region.wanted, hgd]
  rw [if_pos hw]
  have hrun := run_copy_row (P := P) w dT sT o.type elem g 0 dLen dCap ad sLen sCap cur t cs hu hsz hg hn hsrc (by omega) h1
  rw [List.append_assoc, hrow] at hrun
  unfold Oper.wp
  simp [execOp, ho, resolve, invoke, builtin, hd, hs, hrun, Result.andThen]
  exact h
end Go.Proofs.YthpfdnkcepfbaaaDoor
