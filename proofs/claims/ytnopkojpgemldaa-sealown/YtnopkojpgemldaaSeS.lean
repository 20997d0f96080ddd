/- seal: residue's carry, add, mul. -/
import Derived.Test.YtnopkojpgemldaaSeR
set_option linter.unusedVariables false
set_option linter.unusedSimpArgs false
set_option linter.unnecessarySimpa false
namespace Go.Proofs.Ytnopkojpgemldaa
open Go.RowKit

theorem vp_get (N : Nat) (h : Nat → Nat) (post : Array Value) (i : Nat) (hi : i < N) : (vC N h ++ post)[i]? = some (.int .u64 (h i)) := by
  rw [Array.getElem?_append_left (by rw [vC_size]; exact hi), vC_get N h i hi]
theorem vp_get2 (N M : Nat) (h r : Nat → Nat) (post : Array Value) (i : Nat) (hi : i < M) : (vC N h ++ (vC M r ++ post))[N + i]? = some (.int .u64 (r i)) := by
  rw [Array.getElem?_append_right (by rw [vC_size]; omega), vC_size, Nat.add_sub_cancel_left, vp_get M r post i hi]
theorem vp_set (N : Nat) (h : Nat → Nat) (post : Array Value) (i v : Nat) (hi : i < N) : (vC N h ++ post).setIfInBounds i (.int .u64 v) = vC N (up h i v) ++ post := by
  rw [← vC_set]
  exact Array.setIfInBounds_append_left (by rw [vC_size]; exact hi)
def chI (h : Nat → Nat) (i : Nat) : Nat → Nat := fun j => if j < i then ch h j else h j
theorem chI_at (h : Nat → Nat) (i : Nat) : chI h i i = h i := by unfold chI; rw [if_neg (by omega)]
theorem chI_up (h : Nat → Nat) (i : Nat) : up (chI h i) i (ch h i) = chI h (i + 1) := by
  funext j
  unfold up chI
  by_cases q : j = i
  · subst q; rw [if_pos rfl, if_pos (by omega)]
  · rw [if_neg q]
    by_cases q2 : j < i
    · rw [if_pos q2, if_pos (by omega)]
    · rw [if_neg q2, if_neg (by omega)]
theorem chI_0 (h : Nat → Nat) : chI h 0 = h := by funext j; unfold chI; rw [if_neg (by omega)]
theorem chI_end (h : Nat → Nat) : vC 5 (chI h 5) = vC 5 (ch h) := vC_eq fun j hj => by unfold chI; rw [if_pos hj]
set_option maxHeartbeats 8000000 in
set_option maxRecDepth 100000 in
theorem carry_s (g : Nat) (h : Nat → Nat) (post : Array Value) (T : TypeId) (hh : ∀ i, i < 5 → h i < 9223372036854775808) (w : World) (hb : Blk w g (vC 5 h ++ post) T) :
    Calls Try.prog 95 #[.pointer (some ⟨g, 0, none⟩)] w fun e w' => e = .returned (.int .u64 (co h 5 : Nat)) ∧ Blk w' g (vC 5 (ch h) ++ post) T ∧ Chg w w' [g] := by
  have HC : Hid (∀ i, i ≤ 5 → co h i ≤ 274877906944) := co_lt hh
  have HH : Hid (∀ i, i < 5 → h i < 9223372036854775808) := hh
  rw [← chI_0 h] at hb
  clear hh
  go_enter Try.func95, Try.ntmps95
  go_wp2_with fail
  go_loopw [3, 5] (fun t3 t5 wr => ∃ i : Nat, i ≤ 5 ∧ t3 = .int .u64 (co h i : Nat) ∧ t5 = .int .i64 (i : Int) ∧ Blk wr g (vC 5 (chI h i) ++ post) T ∧ Chg w wr [g]) (fun _ t _ => (5 - intOf t).toNat)
  case atStart => exact ⟨0, by omega, rfl, rfl, hb, Chg.refl _ _⟩
  case round =>
    obtain ⟨i, hi, rfl, rfl, b0, c0⟩ := hrel
    by_cases h8 : i < 5
    · have hI : (i : Int) < 5 := by omega
      have e1 : IntKind.i64.wrap ((i : Int) + 1) = (i : Int) + 1 := by rw [IntKind.wrap_i64]; omega
      have cx := (b0.cell i).trans (vp_get 5 _ post i h8)
      have fx := b0.frozen i
      rw [chI_at] at cx
      have q1 := HC.out i hi
      have q2 := HH.out i h8
      obtain ⟨A, hA⟩ : ∃ A, co h i = A := ⟨_, rfl⟩
      obtain ⟨D, hD⟩ : ∃ D, h i = D := ⟨_, rfl⟩
      obtain ⟨X, hX⟩ : ∃ X, A + D = X := ⟨_, rfl⟩
      obtain ⟨M, hM⟩ : ∃ M, X % 67108864 = M := ⟨_, rfl⟩
      obtain ⟨R, hR⟩ : ∃ R, X / 67108864 = R := ⟨_, rfl⟩
      have HR : Hid (co h (i + 1) = R) := by show co h (i + 1) = R; rw [← hR, ← hX, ← hA, ← hD]; rfl
      have b1 := (b0.setCell i (.int .u64 (M : Nat))).to ((vp_set 5 _ post i M h8).trans (by rw [show M = ch h i from by rw [← hM, ← hX, ← hA, ← hD]; rfl, chI_up]))
      have c1 := c0.setIn (k := g) (by simp) i (.int .u64 (M : Nat))
      rw [hA] at q1 ⊢
      rw [hD] at q2 cx
      have eX : IntKind.u64.wrap ((A : Int) + (D : Int)) = (X : Int) := by rw [IntKind.wrap_u64]; omega
      have eM : bits .and .u64 (X : Int) 67108863 = (M : Int) := by rw [and26 X (by omega), hM]
      have eR : (X : Int) / 67108864 = (R : Int) := by omega
      clear hA hD hX hM hR q1 q2
      go_wp2_with fail
      exact ⟨⟨i + 1, by omega, by rw [HR.out], by go_num, b1, c1⟩, by simp [intOf]; omega⟩
    · obtain rfl : i = 5 := by omega
      rw [chI_end] at b0
      go_wp2_with fail
      go_ret
      exact ⟨rfl, b0, c0⟩
def adI (h n : Nat → Nat) (i : Nat) : Nat → Nat := fun j => if j < i then h j + n j else h j
theorem adI_at (h n : Nat → Nat) (i : Nat) : adI h n i i = h i := by unfold adI; rw [if_neg (by omega)]
theorem adI_up (h n : Nat → Nat) (i : Nat) : up (adI h n i) i (h i + n i) = adI h n (i + 1) := by
  funext j
  unfold up adI
  by_cases q : j = i
  · subst q; rw [if_pos rfl, if_pos (by omega)]
  · rw [if_neg q]
    by_cases q2 : j < i
    · rw [if_pos q2, if_pos (by omega)]
    · rw [if_neg q2, if_neg (by omega)]
theorem adI_0 (h n : Nat → Nat) : adI h n 0 = h := by funext j; unfold adI; rw [if_neg (by omega)]
theorem adI_end (h n : Nat → Nat) : vC 5 (adI h n 5) = vC 5 (fun j => h j + n j) := vC_eq fun j hj => by unfold adI; rw [if_pos hj]
set_option maxHeartbeats 8000000 in
set_option maxRecDepth 100000 in
theorem radd_s (g nb : Nat) (h n : Nat → Nat) (post : Array Value) (T : TypeId) (hh : ∀ i, i < 5 → h i < 9223372036854775808) (hn : ∀ i, i < 5 → n i < 9223372036854775808) (w : World) (hb : Blk w g (vC 5 h ++ post) T) (hnb : Blk w nb (vC 5 n) 110) (hne : ¬ nb = g) :
    Calls Try.prog 68 #[.pointer (some ⟨g, 0, none⟩), .pointer (some ⟨nb, 0, none⟩)] w fun e w' => e = .returned (.tuple #[]) ∧ Blk w' g (vC 5 (fun j => h j + n j) ++ post) T ∧ Chg w w' [g] := by
  have HH : Hid (∀ i, i < 5 → h i < 9223372036854775808 ∧ n i < 9223372036854775808) := fun i hi => ⟨hh i hi, hn i hi⟩
  rw [← adI_0 h n] at hb
  clear hh hn
  go_enter Try.func68, Try.ntmps68
  go_wp2_with fail
  go_loopw [5] (fun t wr => ∃ i : Nat, i ≤ 5 ∧ t = .int .i64 (i : Int) ∧ Blk wr g (vC 5 (adI h n i) ++ post) T ∧ Chg w wr [g]) (fun t _ => (5 - intOf t).toNat)
  case atStart => exact ⟨0, by omega, rfl, hb, Chg.refl _ _⟩
  case round =>
    obtain ⟨i, hi, rfl, b0, c0⟩ := hrel
    by_cases h8 : i < 5
    · have hI : (i : Int) < 5 := by omega
      have e1 : IntKind.i64.wrap ((i : Int) + 1) = (i : Int) + 1 := by rw [IntKind.wrap_i64]; omega
      have n0 := hnb.chg c0 (by simpa using hne)
      have ca := (b0.cell i).trans (vp_get 5 _ post i h8)
      have cn := (n0.cell i).trans (vC_get 5 _ i h8)
      have fx := b0.frozen i
      rw [adI_at] at ca
      obtain ⟨q1, q2⟩ := HH.out i h8
      have hup := adI_up h n i
      obtain ⟨A, hA⟩ : ∃ A, h i = A := ⟨_, rfl⟩
      obtain ⟨D, hD⟩ : ∃ D, n i = D := ⟨_, rfl⟩
      obtain ⟨X, hX⟩ : ∃ X, A + D = X := ⟨_, rfl⟩
      rw [hA, hD, hX] at hup
      rw [hA] at ca q1; rw [hD] at cn q2
      have eX : IntKind.u64.wrap ((A : Int) + (D : Int)) = (X : Int) := by rw [IntKind.wrap_u64]; omega
      have b1 := (b0.setCell i (.int .u64 (X : Nat))).to ((vp_set 5 _ post i X h8).trans (by rw [hup]))
      have c1 := c0.setIn (k := g) (by simp) i (.int .u64 (X : Nat))
      clear hA hD hX hup q1 q2 n0
      go_wp2_with fail
      go_region
      go_wp2_with fail
      exact ⟨⟨i + 1, by omega, by go_num, b1.drew, c1.drew⟩, by simp [intOf]; omega⟩
    · obtain rfl : i = 5 := by omega
      rw [adI_end] at b0
      go_wp2_with fail
      go_end0
      exact ⟨rfl, b0, c0⟩

theorem zeroW9 : (Try.prog.info? 198).bind (·.zero) = some (.agg (vC 9 (fun _ => 0))) := by kernel_rfl
theorem u64Info : (Try.prog.info? 47).map (·.size) = some 1 := by kernel_rfl
def vL (n : Nat) (f : Nat → Nat) : List Value := (List.range n).map fun i => Value.int .u64 (f i)
theorem vL_len (n : Nat) (f : Nat → Nat) : (vL n f).length = n := by simp [vL]
theorem vL_some (n : Nat) (f : Nat → Nat) (i : Nat) (v : Value) (h : (vL n f)[i]? = some v) : i < n ∧ v = .int .u64 (f i) := by
  by_cases hi : i < n
  · rw [show (vL n f)[i]? = some (.int .u64 (f i)) by simp [vL, hi]] at h
    simp at h; exact ⟨hi, h.symm⟩
  · rw [List.getElem?_eq_none (by rw [vL_len]; omega)] at h; simp at h
theorem vL_one (n : Nat) (f : Nat → Nat) : ∀ v ∈ vL n f, v.oneCell' = true := by
  intro v hv
  simp [vL] at hv
  obtain ⟨i, _, rfl⟩ := hv
  rfl
/-- copy of n words over the first n of a block. -/
theorem copy_vo {P : Program} {w : World} {o : Oper} {a : Act} {K : Act → World → Prop} {Q : Exit → Act → World → Prop} (d s : Operand) (dT sT : TypeId)
    (ho : o.op = .call { callee := .builtin .copy, args := #[d, s], argTypes := #[dT, sT] }) (elem : TypeId) (hu : P.underlying dT = some (.slice elem)) (hsz : (P.info? elem).map (·.size) = some 1)
    (g n dCap gs sCap : Nat) (hd : a.eval d = .slice (some ⟨g, 0, none⟩) n dCap) (hs : a.eval s = .slice (some ⟨gs, 0, none⟩) n sCap)
    (t f : Nat → Nat) (post : Array Value) (T : TypeId) (hg : Blk w g (vC n t ++ post) T) (hsrc : ∀ j, j < n → w.cell? ⟨gs, j, none⟩ = some (.int .u64 (f j)))
    (h : ∀ w', Blk w' g (vC n f ++ post) T → Chg w w' [g] → K (a.put o.dst (goInt n)) w') : o.wp P a w K Q := by
  have hrun := run_copy_row (P := P) w dT sT o.type elem g 0 n dCap ⟨gs, 0, none⟩ n sCap _ T (vL n f) hu hsz hg (by rw [vL_len]; exact (Nat.min_self n).symm)
    (fun j v hj => by obtain ⟨h1, rfl⟩ := vL_some n f j v hj; exact add_cell (by rw [Nat.zero_add]; exact hsrc j h1)) (by rw [vL_len]; simp [vC_size]) (vL_one n f)
  have e : (((vC n t ++ post).toList.take 0 ++ (vL n f ++ (vC n t ++ post).toList.drop (0 + (vL n f).length))).toArray) = vC n f ++ post := by
    rw [vL_len, Nat.zero_add]
    have e1 : (vC n t ++ post).toList.drop n = post.toList := by
      rw [Array.toList_append, List.drop_append_of_le_length (by simp [vC_size]), List.drop_eq_nil_of_le (by simp [vC_size])]
      rfl
    rw [e1]
    simp [vL, vC]
  rw [List.append_assoc, e, vL_len] at hrun
  unfold Oper.wp
  simp [execOp, ho, resolve, invoke, builtin, hd, hs, hrun, Result.andThen]
  exact h _ (hg.setRow _) ⟨rfl, rfl, rfl, by simp, fun k hk hl => setRow_other _ _ _ _ (by simpa using hl)⟩
end Go.Proofs.Ytnopkojpgemldaa
