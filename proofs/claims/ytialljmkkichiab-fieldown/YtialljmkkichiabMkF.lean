/- (*Given).Scalars. -/
import Derived.Test.YtialljmkkichiabGvFe
set_option linter.unusedVariables false
set_option linter.unusedSimpArgs false
set_option linter.unnecessarySimpa false
namespace Go.Proofs.Ytialljmkkichiab
open Go.RowKit N

theorem z32L : z32 = (z32.toList).toArray := rfl
theorem z32_ok : (z32.toList).length = 32 ∧ ∀ v ∈ z32.toList, v.oneCell' = true := ⟨rfl, by simp [z32, Value.oneCell']⟩
theorem make_si (r : Nat) (hr : r ≤ 4398046511104) (W : World) : (Instr.makeSlice 52 (.int .i64 (r : Int)) (.int .i64 (r : Int))).run Try.prog W = .ok (.slice (some ⟨W.heap.size, 0, none⟩) r r) (W.alloc (.cells (rL 32 r fun _ => z32.toList).toArray 23)) := by
  obtain ⟨i, hi, hz, h1, h2⟩ := scRow
  have h := run_make (P := Try.prog) W 52 23 i (.agg z32) Try.underlying52 hi hz .i64 .i64 (r : Int) (r : Int) (by omega) (by omega) (by rw [h2]; omega) (by omega)
  rw [h, h1, Int.toNat_natCast]
  show Result.ok _ (W.alloc (.cells (madeCells z32 (r * 32)) 23)) = _
  rw [made_r z32 32 r rfl]
theorem listRowS : ∃ i, Try.prog.info? 52 = some i ∧ i.zero = some (.slice none 0 0) ∧ i.size = 1 ∧ i.bytes = 24 := by
  have h : (Try.prog.info? 52).map (fun i => (i.zero, i.size, i.bytes)) = some (some (.slice none 0 0), 1, 24) := by kernel_rfl
  cases hi : Try.prog.info? 52 with
  | none => rw [hi] at h; simp at h
  | some i => rw [hi] at h; simp at h; exact ⟨i, rfl, h.1, h.2.1, h.2.2⟩
theorem mk_ok (i : Nat) : (fR (mkS 987) i).length = 32 ∧ ∀ v ∈ fR (mkS 987) i, v.oneCell' = true := feL_ok _
theorem there_fe {w : World} {b o : Nat} (h : w.there b o 32) (n : Int) : w.there b o (feC n).size := h
end Go.Proofs.Ytialljmkkichiab
