/- sha512.Resume of a midstate that may be gone on with. -/
import Derived.Test.YthpfdnkcepfbaaaDoorMgL
set_option linter.unusedVariables false
set_option linter.unusedSimpArgs false
set_option linter.unnecessarySimpa false
namespace Go.Proofs.YthpfdnkcepfbaaaDoor
open Go.RowKit

/-- copy of bytes, as one operation. -/
theorem copy_yo {P : Program} {w : World} {o : Oper} {a : Act} {K : Act → World → Prop} {Q : Exit → Act → World → Prop} (d s : Operand) (dT sT : TypeId)
    (ho : o.op = .call { callee := .builtin .copy, args := #[d, s], argTypes := #[dT, sT] }) (elem : TypeId) (hu : P.underlying dT = some (.slice elem)) (hsz : (P.info? elem).map (·.size) = some 1)
    (g at' dLen dCap : Nat) (sp : Option Addr) (sLen sCap : Nat) (hd : a.eval d = .slice (some ⟨g, at', none⟩) dLen dCap) (hs : a.eval s = .slice sp sLen sCap)
    (pre : Array Value) (N : Nat) (t : Nat → Nat) (post : Array Value) (T : TypeId) (hg : Blk w g (pre ++ (yC N t ++ post)) T) (off n : Nat) (f : Nat → Nat) (hat : 0 < n → at' = pre.size + off) (hn : n = Nat.min sLen dLen)
    (hsrc : 0 < n → ∃ gs os, sp = some ⟨gs, os, none⟩ ∧ ∀ j, j < n → w.cell? ⟨gs, os + j, none⟩ = some (.int .u8 (f j))) (hfit : off + n ≤ N)
    (h : ∀ w', Blk w' g (pre ++ (yC N (lay t off n f) ++ post)) T → Chg w w' [g] → K (a.put o.dst (goInt n)) w') : o.wp P a w K Q := by
  by_cases h0 : n = 0
  · subst h0
    have hrun := run_copy_none (P := P) w dT sT o.type elem (some ⟨g, at', none⟩) sp dLen dCap sLen sCap hu hsz hn.symm
    unfold Oper.wp
    simp [execOp, ho, resolve, invoke, builtin, hd, hs, hrun, Result.andThen]
    exact h w (by rw [lay_zero]; exact hg) (Chg.refl w _)
  · obtain ⟨gs, os, rfl, hc⟩ := hsrc (by omega)
    obtain rfl := hat (by omega)
    have hrun := run_copy_row (P := P) w dT sT o.type elem g (pre.size + off) dLen dCap ⟨gs, os, none⟩ sLen sCap _ T (yL n f) hu hsz hg (by rw [yL_len]; exact hn)
      (fun j v hj => by obtain ⟨h1, rfl⟩ := yL_some n f j v hj; exact add_cell (hc j h1)) (by rw [yL_len, seg_size]; omega) (yL_one n f)
    rw [yL_len, List.append_assoc, lay_row pre N t post off n f hfit] at hrun
    unfold Oper.wp
    simp [execOp, ho, resolve, invoke, builtin, hd, hs, hrun, Result.andThen]
    exact h _ (hg.setRow _) ⟨rfl, rfl, rfl, by simp, fun k hk hl => setRow_other _ _ _ _ (by simpa using hl)⟩
theorem mC_tail (s : Nat → Nat) (v : Value) (n : Nat) : (mC s v n)[8]? = some v := by unfold mC; rw [Array.getElem?_append_right (by rw [vC_size]; omega), vC_size]; rfl
theorem mC_len (s : Nat → Nat) (v : Value) (n : Nat) : (mC s v n)[9]? = some (.int .u64 n) := by unfold mC; rw [Array.getElem?_append_right (by rw [vC_size]; omega), vC_size]; rfl
theorem mid_range {w : World} {h n : Nat} {s : Nat → Nat} {v : Value} {T : TypeId} (H : Blk w h (mC s v n) T) : w.rangeAt h 0 (vL 8 s) := fun j x hv => by
  have hj : j < 8 := by
    by_cases hj : j < 8
    · exact hj
    · rw [List.getElem?_eq_none (by rw [vL_len]; omega)] at hv; simp at hv
  have e : (vL 8 s)[j]? = some (.int .u64 (s j)) := by simp [vL, hj]
  rw [e] at hv
  rw [Nat.zero_add, H.cell]
  unfold mC
  rw [Array.getElem?_append_left (by rw [vC_size]; exact hj), vC_get _ _ _ hj]
  exact hv
theorem builtR (s : Nat → Nat) (n : Nat) : Tryd.prog.built 157 [(0, .agg (vC 8 s)), (2, .int .u64 n), (3, .bool true)] = some (hC s (fun _ => 0) n) := by kernel_rfl
end Go.Proofs.YthpfdnkcepfbaaaDoor
