/- (*number).power: a number to the number of bytes. -/
import Derived.Test.YtoafcaieifjoiaaGreatFun
import Derived.Test.YtoafcaieifjoiaaGreatBsI
set_option linter.unusedVariables false
set_option linter.unusedSimpArgs false
set_option linter.unnecessarySimpa false
namespace Go.Proofs.YtoafcaieifjoiaaGreat
open Go.RowKit N

/-- n to the power k, modulo the order. -/
def pw (n : Int) (k : Nat) : Int := n ^ k % L
theorem pw_mul (n : Int) (a b c : Nat) (h : a + b = c) : pw n a * pw n b % L = pw n c := by unfold pw; rw [← Int.mul_emod, ← Int.pow_add, h]
theorem pw_one (n : Int) : pw n 1 = n % L := by unfold pw; rw [Int.pow_succ, Int.pow_zero, Int.one_mul]
theorem pw_zero (n : Int) : pw n 0 = 1 := by unfold pw; rw [Int.pow_zero]; decide
theorem pw_rl (n : Int) (k : Nat) : RL (pw n k) := rl_mod _
theorem pw_dbl (n : Int) (e : Nat) : pw n e * pw n e % L = pw n (2 * e) := pw_mul n e e (2 * e) (by omega)
theorem pw_inc (n : Int) (e : Nat) : pw n e * (n % L) % L = pw n (e + 1) := by
  have h := pw_mul n e 1 (e + 1) (by omega)
  rw [pw_one] at h
  exact h
theorem pw_mod (n : Int) (k : Nat) : pw (n % L) k = pw n k := by
  unfold pw
  induction k with
  | zero => rw [Int.pow_zero, Int.pow_zero]
  | succ k ih => rw [Int.pow_succ, Int.mul_emod, ih, Int.emod_emod_of_dvd _ (Int.dvd_refl L), ← Int.mul_emod, ← Int.pow_succ]
/-- The number of the bytes from place k on, as many as m (the lowest first). -/
def nb (b : Nat → Nat) : Nat → Nat → Nat
  | _, 0 => 0
  | k, m + 1 => b k + 256 * nb b (k + 1) m
theorem bit_step (E b m : Nat) (hm : m < 8) : E * 2 ^ (m + 1) + b / 2 ^ (8 - (m + 1)) = 2 * (E * 2 ^ m + b / 2 ^ (8 - m)) + b / 2 ^ (7 - m) % 2 := by
  have e1 : 8 - m = (7 - m) + 1 := by omega
  have e2 : 8 - (m + 1) = 7 - m := by omega
  rw [e1, e2, Nat.pow_succ 2 (7 - m), ← Nat.div_div_eq_div_mul, Nat.pow_succ 2 m, ← Nat.mul_assoc]
  omega
theorem bit_test : ∀ m : Fin 8, ∀ b : Fin 256, bits .and .u8 ((b.val : Int) * 2 ^ m.val % 256) 128 = 128 * ((b.val / 2 ^ (7 - m.val) % 2 : Nat) : Int) := by decide +kernel
theorem numInfo : (Tryz.prog.info? 162).map (·.size) = some 4 := by kernel_rfl

set_option maxHeartbeats 4000000 in
set_option maxRecDepth 100000 in
theorem power_any (z x g o len cap : Nat) (n : Int) (b : Nat → Nat) (rn : RL n) (hlen : len ≤ 140737488355328) (w : World) (hz : An w z) (hx : NumAt w x n) (hb : Bs w g o len b) (hgz : ¬ g = z) :
    Calls Tryz.prog 128 #[.pointer (some ⟨z, 0, none⟩), .pointer (some ⟨x, 0, none⟩), .slice (some ⟨g, o, none⟩) len cap] w fun e w' => e = .returned (.tuple #[]) ∧ NumAt w' z (pw n (nb b 0 len)) ∧ Chg w w' [z] := by
  have hzl := hz.lt
  have hgl := hb.lt
  have c0 := hx.c0; have c1 := hx.c1; have c2 := hx.c2; have c3 := hx.c3
  have A0 : NumAt ((w.alloc (.cells (wd4 n) 162)).alloc (.cells #[.int .u64 1, .int .u64 0, .int .u64 0, .int .u64 0] 162)) w.heap.size n := (Blk.new w (wd4 n) 162).alloc _
  have A1 : NumAt ((w.alloc (.cells (wd4 n) 162)).alloc (.cells #[.int .u64 1, .int .u64 0, .int .u64 0, .int .u64 0] 162)) (w.heap.size + 1) 1 := by
    have h' : Blk ((w.alloc (.cells (wd4 n) 162)).alloc (.cells #[.int .u64 1, .int .u64 0, .int .u64 0, .int .u64 0] 162)) (w.heap.size + 1) #[.int .u64 1, .int .u64 0, .int .u64 0, .int .u64 0] 162 := by have h := Blk.new (w.alloc (.cells (wd4 n) 162)) #[.int .u64 1, .int .u64 0, .int .u64 0, .int .u64 0] 162; simpa using h
    exact h'
  have CC : Chg w ((w.alloc (.cells (wd4 n) 162)).alloc (.cells #[.int .u64 1, .int .u64 0, .int .u64 0, .int .u64 0] 162)) [z] := ((Chg.refl w _).alloc _).alloc _
  replace hb := (hb.alloc (.cells (wd4 n) 162)).alloc (.cells #[.int .u64 1, .int .u64 0, .int .u64 0, .int .u64 0] 162)
  replace hz := (hz.alloc (.cells (wd4 n) 162)).alloc (.cells #[.int .u64 1, .int .u64 0, .int .u64 0, .int .u64 0] 162)
  clear hx
  go_enter Tryz.func128, Tryz.ntmps128
  go_wp2_with fail
  change Code.wp _ _ _ _ ((w.alloc (.cells (wd4 n) 162)).alloc (.cells #[.int .u64 1, .int .u64 0, .int .u64 0, .int .u64 0] 162))
  have hq : w.heap.size ≤ w.heap.size := Nat.le_refl _
  have hsz : w.heap.size + 1 < ((w.alloc (.cells (wd4 n) 162)).alloc (.cells #[.int .u64 1, .int .u64 0, .int .u64 0, .int .u64 0] 162)).heap.size := A1.lt
  generalize ((w.alloc (.cells (wd4 n) 162)).alloc (.cells #[.int .u64 1, .int .u64 0, .int .u64 0, .int .u64 0] 162)) = v0 at *
  generalize hqq : w.heap.size = q at *
  have HQ : Hid (w.heap.size = q) := hqq
  clear hqq c0 c1 c2 c3
  have hgq : ¬ g = q := by omega
  have hgq1 : ¬ g = q + 1 := by omega
  have hzq : ¬ z = q := by omega
  have hzq1 : ¬ z = q + 1 := by omega
  go_loopw [17] (fun t wr => ∃ i : Nat, i ≤ len ∧ t = .int .i64 (i : Int) ∧ NumAt wr (q + 1) (pw n (nb b (len - i) i)) ∧ NumAt wr q n ∧ Bs wr g o len b ∧ An wr z ∧ Chg w wr [z]) (fun t _ => (len - intOf t).toNat)
  case atStart => exact ⟨0, Nat.zero_le _, rfl, by show NumAt v0 (q + 1) (pw n 0); rw [pw_zero]; exact A1, A0, hb, hz, CC⟩
  case round =>
    obtain ⟨i, hi, rfl, r0, r1, r2, r3, r4⟩ := hrel
    clear A0 A1 hb hz CC
    by_cases hil : i < len
    · obtain ⟨j, hj⟩ : ∃ j, j + (i + 1) = len := ⟨len - (i + 1), by omega⟩
      have hj1 : len - i = j + 1 := by omega
      have hj2 : len - (i + 1) = j := by omega
      have hji : (len : Int) - 1 - (i : Int) = (j : Int) := by omega
      have hjl : (j : Int) < (len : Int) := by omega
      have hbj := r2.bd j (by omega)
      have cb := r2.cell j (by omega)
      have hE : nb b j (i + 1) = nb b (j + 1) i * 2 ^ 8 + b j / 2 ^ (8 - 8) := by
        show b j + 256 * nb b (j + 1) i = _
        simp only [Nat.sub_self, Nat.pow_zero, Nat.div_one]
        omega
      have HE : Hid (nb b (len - (i + 1)) (i + 1) = nb b (j + 1) i * 2 ^ 8 + b j / 2 ^ (8 - 8)) := by rw [hj2]; exact hE
      rw [hj1] at r0
      have hIl : (i : Int) < (len : Int) := by omega
      clear hE hj1 hj2
      generalize nb b (j + 1) i = E at *
      generalize hbb : b j = B at *
      clear hbb
      go_wp2_with fail
      go_loopw [28] (fun t wr => ∃ m : Nat, m ≤ 8 ∧ t = .int .i64 (m : Int) ∧ NumAt wr (q + 1) (pw n (E * 2 ^ m + B / 2 ^ (8 - m))) ∧ NumAt wr q n ∧ Bs wr g o len b ∧ An wr z ∧ Chg w wr [z]) (fun t _ => (8 - intOf t).toNat)
      case atStart => exact ⟨0, by omega, rfl, by rw [Nat.pow_zero, Nat.mul_one, Nat.div_eq_of_lt (by omega), Nat.add_zero]; exact r0, r1, r2, r3, r4⟩
      case round =>
        obtain ⟨m, hm, rfl, s0, s1, s2, s3, s4⟩ := hrel
        clear r0 r1 r2 r3 r4 cb
        by_cases hm8 : m < 8
        · have hst : Hid (E * 2 ^ (m + 1) + B / 2 ^ (8 - (m + 1)) = 2 * (E * 2 ^ m + B / 2 ^ (8 - m)) + B / 2 ^ (7 - m) % 2) := bit_step E B m hm8
          have ht := bit_test ⟨m, hm8⟩ ⟨B, hbj⟩
          have hm8' : (m : Int) < 8 := by omega
          simp only at ht
          go_wp2_with fail
          refine (mul_any (q + 1) (q + 1) (q + 1) _ _ (pw_rl _ _) (pw_rl _ _) _ s0.an s0 s0).mono ?_
          rintro e v3 ⟨rfl, t0, k3⟩
          rw [pw_dbl] at t0
          have t1 := s1.chg k3 (by simp)
          have t2 := s2.chg k3 (by simpa using hgq1)
          have t3 := s3.chg k3 (by simpa using hzq1)
          have t4 := s4.new k3 (by rw [HQ.out]; omega)
          clear s0 s1 s2 s3 s4 k3
          rcases Nat.mod_two_eq_zero_or_one (B / 2 ^ (7 - m)) with hz2 | hz2
          · rw [hz2] at ht
            have ht0 : bits .and .u8 ((B : Int) * 2 ^ m % 256) 128 = 0 := ht
            have HZ : Hid (B / 2 ^ (7 - m) % 2 = 0) := hz2
            clear hz2 ht
            go_wp2_with fail
            exact ⟨⟨m + 1, by omega, by go_num, by rw [hst.out, HZ.out]; exact t0, t1, t2, t3, t4⟩, by simp [intOf]; omega⟩
          · rw [hz2] at ht
            have ht0 : bits .and .u8 ((B : Int) * 2 ^ m % 256) 128 = 128 := ht
            have HZ : Hid (B / 2 ^ (7 - m) % 2 = 1) := hz2
            clear hz2 ht
            go_wp2_with fail
            refine (mul_any (q + 1) (q + 1) q _ _ (pw_rl _ _) rn _ t0.an t0 t1).mono ?_
            rintro e v4 ⟨rfl, p0, k4⟩
            rw [← rl_eq rn, pw_mod, pw_inc] at p0
            have p1 := t1.chg k4 (by simp)
            have p2 := t2.chg k4 (by simpa using hgq1)
            have p3 := t3.chg k4 (by simpa using hzq1)
            have p4 := t4.new k4 (by rw [HQ.out]; omega)
            clear t0 t1 t2 t3 t4 k4
            go_wp2_with fail
            exact ⟨⟨m + 1, by omega, by go_num, by rw [hst.out, HZ.out]; exact p0, p1, p2, p3, p4⟩, by simp [intOf]; omega⟩
        · have hm9 : m = 8 := by omega
          subst hm9
          go_wp2_with fail
          exact ⟨⟨i + 1, by omega, by go_num, by rw [HE.out]; exact s0, s1, s2, s3, s4⟩, by simp [intOf]; omega⟩
    · have hl : i = len := by omega
      subst hl
      rw [Nat.sub_self] at r0
      obtain ⟨x0, x1, x2, x3, r3⟩ := r3
      have r3' : Blk wr z #[x0, x1, x2, x3] 162 := r3
      go_wp2_with (first | (refine wpList_load_row rfl 162 _ rfl (q + 1) rfl 162 _ (0, 0) _ r0 Tryz.underlying162 rfl numInfo ?_) | (refine wpList_store_row rfl 162 _ _ rfl z _ rfl rfl 162 _ r3' numInfo rfl (by simp [wd4, Value.oneCell']) ?_))
      go_end0
      exact ⟨rfl, Blk.setRow r3' _, r4.trans1 (Chg.of (gb_setRow (gb_refl _ _) _))⟩
end Go.Proofs.YtoafcaieifjoiaaGreat
