/- num.naf, scalar.Naf, scalar.Digits. -/
import Derived.Test.YtcdgkhejbdlapabNafM
set_option linter.unusedVariables false
set_option linter.unusedSimpArgs false
set_option linter.unnecessarySimpa false
namespace Go.Proofs.Ytcdgkhejbdlapab
open Go.RowKit N

/-- n ints by a function. -/
def iC (n : Nat) (f : Nat → Int) : Array Value := ((List.range n).map fun i => Value.int .i64 (f i)).toArray
theorem iC_size (n : Nat) (f : Nat → Int) : (iC n f).size = n := by simp [iC]
theorem iC_get (n : Nat) (f : Nat → Int) (i : Nat) (h : i < n) : (iC n f)[i]? = some (.int .i64 (f i)) := by simp [iC, h]
theorem iC_eq {n : Nat} {f g : Nat → Int} (h : ∀ i, i < n → f i = g i) : iC n f = iC n g := by
  unfold iC
  congr 1
  exact List.map_congr_left fun i hi => by rw [h i (by simpa using hi)]
theorem iC_set (n : Nat) (f : Nat → Int) (i : Nat) (v : Int) : (iC n f).setIfInBounds i (.int .i64 v) = iC n (fun j => if j = i then v else f j) := by
  apply Array.ext_getElem?
  intro j
  by_cases hj : j < n
  · rw [Array.getElem?_setIfInBounds, iC_get n _ j hj, iC_get n _ j hj, iC_size]
    by_cases h : i = j
    · subst h; simp [hj]
    · rw [if_neg h, if_neg (fun e => h e.symm)]
  · rw [Array.getElem?_eq_none (by rw [Array.size_setIfInBounds, iC_size]; omega), Array.getElem?_eq_none (by rw [iC_size]; omega)]
theorem made_i (n : Nat) : madeCells #[.int .i64 0] n = iC n fun _ => 0 := by
  unfold madeCells
  apply Array.ext_getElem?
  intro i
  by_cases h : i < n
  · rw [iC_get _ _ _ h]
    simp [h, Nat.mod_one]
  · rw [Array.getElem?_eq_none (by simp; omega), Array.getElem?_eq_none (by rw [iC_size]; omega)]
theorem intRow : ∃ i, Try.prog.info? 3 = some i ∧ i.zero = some (.int .i64 0) ∧ i.size = 1 ∧ i.bytes = 8 := by
  have h : (Try.prog.info? 3).map (fun i => (i.zero, i.size, i.bytes)) = some (some (.int .i64 0), 1, 8) := by kernel_rfl
  cases hi : Try.prog.info? 3 with
  | none => rw [hi] at h; simp at h
  | some i => rw [hi] at h; simp at h; exact ⟨i, rfl, h.1, h.2.1, h.2.2⟩
theorem make_i (r : Nat) (hr : r < 1000) (W : World) : (Instr.makeSlice 46 (.int .i64 (r : Int)) (.int .i64 (r : Int))).run Try.prog W = .ok (.slice (some ⟨W.heap.size, 0, none⟩) r r) (W.alloc (.cells (iC r fun _ => 0) 3)) := by
  obtain ⟨i, hi, hz, h1, h2⟩ := intRow
  have h := run_make (P := Try.prog) W 46 3 i (.int .i64 0) Try.underlying46 hi hz .i64 .i64 (r : Int) (r : Int) (by omega) (by omega) (by rw [h2]; omega) (by omega)
  rw [h, h1, Int.toNat_natCast, Nat.mul_one]
  show Result.ok _ (W.alloc (.cells (madeCells #[.int .i64 0] r) 3)) = _
  rw [made_i]
/-- The first a digits stand. -/
def nfd (wd n a : Nat) : Nat → Int := fun j => if j < a then dn wd n j else 0
theorem nfd_zero (wd n : Nat) : iC 256 (fun _ => 0) = iC 256 (nfd wd n 0) := iC_eq fun i _ => by unfold nfd; rw [if_neg (by omega)]
theorem nfd_even (wd n a : Nat) (h : dn wd n a = 0) : iC 256 (nfd wd n a) = iC 256 (nfd wd n (a + 1)) := iC_eq fun i _ => by
  unfold nfd
  by_cases h1 : i < a
  · rw [if_pos h1, if_pos (by omega)]
  · by_cases h2 : i = a
    · rw [if_neg h1, if_pos (by omega), h2, h]
    · rw [if_neg h1, if_neg (by omega)]
theorem nfd_odd (wd n a : Nat) (hw : 1 ≤ wd) (v : Int) (hv : dn wd n a = v) (h : ∀ j, 1 ≤ j → j < wd → dn wd n (a + j) = 0) : (iC 256 (nfd wd n a)).setIfInBounds a (.int .i64 v) = iC 256 (nfd wd n (a + wd)) := by
  rw [iC_set]
  refine iC_eq fun i _ => ?_
  unfold nfd
  by_cases h1 : i = a
  · rw [if_pos h1, if_pos (by omega), h1, hv]
  · rw [if_neg h1]
    by_cases h2 : i < a
    · rw [if_pos h2, if_pos (by omega)]
    · rw [if_neg h2]
      by_cases h3 : i < a + wd
      · rw [if_pos h3]
        have := h (i - a) (by omega) (by omega)
        rw [show a + (i - a) = i by omega] at this
        exact this.symm
      · rw [if_neg h3]
theorem nfd_end (wd n a : Nat) (h : 256 ≤ a) : iC 256 (nfd wd n a) = iC 256 (dn wd n) := iC_eq fun i hi => by unfold nfd; rw [if_pos (by omega)]
theorem i64_and1 (n : Int) : bits .and .i64 n 1 = n % 2 := by
  have h1 : (BitVec.ofInt 64 1).toNat = 2 ^ 1 - 1 := by decide
  have key : (BitVec.ofInt 64 n &&& BitVec.ofInt 64 1).toNat = (n % ((2 ^ 64 : Nat) : Int)).toNat % 2 ^ 1 := by
    rw [BitVec.toNat_and, BitVec.toNat_ofInt, h1, Nat.and_two_pow_sub_one_eq_mod]
  show IntKind.i64.wrap ((BitVec.ofInt 64 n &&& BitVec.ofInt 64 1).toNat : Nat) = n % 2
  rw [key, IntKind.wrap_i64]
  omega
theorem mod2_cast (D r : Nat) (h : D % 2 = r) : (D : Int) % 2 = (r : Int) := by omega
theorem fact_sum (W c P : Nat) (h1 : W < P) (h2 : P ≤ 256) (h3 : c ≤ 1) : wrap64 ((W : Int) + (c : Int)) = ((W + c : Nat) : Int) := by rw [wrap64_fit _ ⟨by omega, by omega⟩]; omega
theorem fact_E (C P E : Nat) (h1 : C ≤ 1) (h2 : P ≤ 256) (h3 : C * P = E) : E ≤ 256 := by
  have := Nat.mul_le_mul h1 h2
  omega
theorem fact_sub (D E : Nat) (V : Int) (h1 : D ≤ 300) (h2 : E ≤ 256) (h3 : (D : Int) - (E : Int) = V) : wrap64 ((D : Int) - (E : Int)) = V := by rw [wrap64_fit _ ⟨by omega, by omega⟩]; exact h3
theorem fact_mul (C wd E : Nat) (hE : C * 2 ^ wd = E) (h : E ≤ 256) : wrap64 ((C : Int) * 2 ^ wd) = (E : Int) := by
  have : (C : Int) * 2 ^ wd = (E : Int) := by rw [← hE, Int.natCast_mul, Int.natCast_pow]; rfl
  rw [this, wrap64_fit _ ⟨by omega, by omega⟩]
/-- All that a round of naf wants to know. -/
theorem naf_facts (n a c wd : Nat) (hc : c ≤ 1) (hw1 : 2 ≤ wd) (hw : wd ≤ 8) (hv : vn wd n a = n / 2 ^ a + c) :
    ∃ D : Nat, wrap64 (((win n a wd : Nat) : Int) + (c : Int)) = (D : Int) ∧
      ((bits .and .i64 (D : Int) 1 = 0 ∧ vn wd n (a + 1) = n / 2 ^ (a + 1) + c ∧ iC 256 (nfd wd n a) = iC 256 (nfd wd n (a + 1))) ∨
       (bits .and .i64 (D : Int) 1 = 1 ∧ ∃ (C E : Nat) (V : Int), C ≤ 1 ∧ (D : Int) / 2 ^ (wd - 1) = (C : Int) ∧ wrap64 ((C : Int) * 2 ^ wd) = (E : Int) ∧ wrap64 ((D : Int) - (E : Int)) = V ∧
          vn wd n (a + wd) = n / 2 ^ (a + wd) + C ∧ (iC 256 (nfd wd n a)).setIfInBounds a (.int .i64 V) = iC 256 (nfd wd n (a + wd)))) := by
  have hl := win_lt n a wd
  have hp := pow_le8 wd hw
  refine ⟨win n a wd + c, fact_sum _ c (2 ^ wd) hl hp hc, ?_⟩
  obtain ⟨D, hD⟩ : ∃ D, win n a wd + c = D := ⟨_, rfl⟩
  rw [hD]
  have hD2 : D ≤ 300 := by rw [← hD]; exact Nat.le_trans (Nat.add_le_add (Nat.le_trans (Nat.le_of_lt hl) hp) hc) (by decide)
  rcases Nat.mod_two_eq_zero_or_one D with ho | ho
  · obtain ⟨n1, n2⟩ := naf_even n a c wd hc (Nat.le_of_succ_le hw1) hv (by rw [hD]; exact ho)
    refine Or.inl ⟨?_, n2, nfd_even wd n a n1⟩
    rw [i64_and1, mod2_cast D _ ho]
    rfl
  · obtain ⟨C, hC⟩ : ∃ C, D / 2 ^ (wd - 1) = C := ⟨_, rfl⟩
    obtain ⟨n0, n1, n2, n3, n4⟩ := naf_odd n a c wd D C hc (Nat.le_of_succ_le hw1) hv hD ho hC
    obtain ⟨E, hE⟩ : ∃ E, C * 2 ^ wd = E := ⟨_, rfl⟩
    have hE2 := fact_E C (2 ^ wd) E n1 hp hE
    rw [hE] at n2
    refine Or.inr ⟨?_, C, E, (D : Int) - (E : Int), n1, by rw [div_nat, hC], fact_mul C wd E hE hE2, fact_sub D E _ hD2 hE2 rfl, n4, nfd_odd wd n a (Nat.le_of_succ_le hw1) _ n2 n3⟩
    rw [i64_and1, mod2_cast D _ ho]
    rfl
theorem lt264 (a wd : Nat) (h : a < 256) (hw : wd ≤ 8) : a + wd < 264 := by omega
theorem lt264' (a : Nat) (h : a < 256) : a + 1 < 264 := by omega
theorem meas264 (a d : Nat) (h : a < 256) (hd : 1 ≤ d) : (264 - intOf (.int .i64 ((a : Int) + (d : Int)))).toNat < (264 - intOf (.int .i64 (a : Int))).toNat := by simp [intOf]; omega
set_option maxHeartbeats 4000000 in
set_option maxRecDepth 100000 in
theorem naf_s (z n wd : Nat) (hn : n < 115792089237316195423570985008687907853269984665640564039457584007913129639936) (hw1 : 2 ≤ wd) (hw : wd ≤ 8) (w : World) (hz : NumAt w z (n : Int)) :
    Calls Try.prog 48 #[.pointer (some ⟨z, 0, none⟩), .int .i64 (wd : Int)] w fun e w' => ∃ g, e = .returned (.slice (some ⟨g, 0, none⟩) 256 256) ∧ w.heap.size ≤ g ∧ Blk w' g (iC 256 (dn wd n)) 3 ∧ Chg w w' [] := by
  have hm := make_i 256 (by decide) w
  simp only [show ((256 : Nat) : Int) = 256 from rfl] at hm
  have B0 := Blk.new w (iC 256 fun _ => 0) 3
  rw [nfd_zero wd n] at B0 hm
  have C0 : Chg w (w.alloc (.cells (iC 256 (nfd wd n 0)) 3)) [] := (Chg.refl w []).alloc _
  have z0 : NumAt (w.alloc (.cells (iC 256 (nfd wd n 0)) 3)) z (n : Int) := Blk.alloc hz _
  have v0 : vn wd n 0 = n / 2 ^ 0 + 0 := by unfold vn; simp
  have hzl := hz.lt
  go_enter Try.func48, Try.ntmps48
  go_wp2_with fail
  go_loopw [6, 7] (fun tc ta wr => ∃ a c : Nat, tc = .int .i64 (c : Int) ∧ ta = .int .i64 (a : Int) ∧ a < 264 ∧ c ≤ 1 ∧ vn wd n a = n / 2 ^ a + c ∧ Blk wr w.heap.size (iC 256 (nfd wd n a)) 3 ∧ NumAt wr z (n : Int) ∧ Chg w wr []) (fun _ ta _ => (264 - intOf ta).toNat)
  case atStart => exact ⟨0, 0, rfl, rfl, by decide, by decide, v0, B0, z0, C0⟩
  case round =>
    clear B0 C0 z0 v0 hm
    obtain ⟨a, c, rfl, rfl, ha, hc, hv, B, hz', CC⟩ := hrel
    by_cases h : a < 256
    · have hI : (a : Int) < 256 := by omega
      have cl : wr.cell? ⟨w.heap.size, a, none⟩ = some (.int .i64 (nfd wd n a a)) := by rw [B.cell, iC_get _ _ _ h]
      have fz := B.frozen a
      have H1 := lt264' a h
      have H2 := lt264 a wd h hw
      have M1 := meas264 a 1 h (Nat.le_refl _)
      have M2 := meas264 a wd h (Nat.le_of_succ_le hw1)
      have hne : z ≠ w.heap.size := Nat.ne_of_lt hzl
      obtain ⟨D, e0, hcase⟩ := naf_facts n a c wd hc hw1 hw hv
      clear hv
      have HM1 : Hid _ := M1
      have HM2 : Hid _ := M2
      clear M1 M2
      rcases hcase with ⟨e2, n2, hset⟩ | ⟨e2, C, E, V, n1, e3, e4, e5, n4, hset⟩
      · have HS : Hid _ := hset
        clear hset
        go_wp2_with (refine (window_s z n a wd hn h hw _ hz').mono ?_; rintro e x ⟨rfl, rfl⟩)
        exact ⟨⟨a + 1, c, rfl, rfl, H1, hc, n2, B.to HS.out, hz', CC⟩, HM1.out⟩
      · have HS : Hid _ := hset
        clear hset
        go_wp2_with (refine (window_s z n a wd hn h hw _ hz').mono ?_; rintro e x ⟨rfl, rfl⟩)
        exact ⟨⟨a + wd, C, rfl, rfl, H2, n1, n4, (B.setCell a (.int .i64 V)).to HS.out, Blk.setOther hz' hne _ _, CC.setNew (Nat.le_refl _) _ _⟩, HM2.out⟩
    · have hI : ¬ (a : Int) < 256 := by omega
      go_wp2_with fail
      go_ret
      exact ⟨_, rfl, Nat.le_refl _, B.to (nfd_end wd n a (by omega)), CC⟩
end Go.Proofs.Ytcdgkhejbdlapab
