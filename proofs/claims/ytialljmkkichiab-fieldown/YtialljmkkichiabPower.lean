/- Power: a to the number of bytes. -/
import Derived.Test.YtialljmkkichiabFun2
set_option linter.unusedVariables false
set_option linter.unusedSimpArgs false
set_option linter.unnecessarySimpa false
namespace Go.Proofs.Ytialljmkkichiab
open Go.RowKit N

/-- The number of the bytes from place k on, as many as m (the lowest first). -/
def nb (b : Nat → Nat) : Nat → Nat → Nat
  | _, 0 => 0
  | k, m + 1 => b k + 256 * nb b (k + 1) m

theorem pw_dbl (n : Int) (e : Nat) : pw n e * pw n e % P = pw n (2 * e) := pw_mul n e e (2 * e) (by omega)
theorem pw_inc (n : Int) (e : Nat) : pw n e * (n % P) % P = pw n (e + 1) := by
  have h := pw_mul n e 1 (e + 1) (by omega)
  rw [pw_one] at h
  exact h
theorem bit_step (E b m : Nat) (hm : m < 8) : E * 2 ^ (m + 1) + b / 2 ^ (8 - (m + 1)) = 2 * (E * 2 ^ m + b / 2 ^ (8 - m)) + b / 2 ^ (7 - m) % 2 := by
  have e1 : 8 - m = (7 - m) + 1 := by omega
  have e2 : 8 - (m + 1) = 7 - m := by omega
  rw [e1, e2, Nat.pow_succ 2 (7 - m), ← Nat.div_div_eq_div_mul, Nat.pow_succ 2 m, ← Nat.mul_assoc]
  omega
theorem low_bit (x : Nat) (k : Nat) (hx : x < 256) : bits .and .u8 ((x : Int) / 2 ^ k) 1 = ((x / 2 ^ k % 2 : Nat) : Int) := by
  have e : (x : Int) / 2 ^ k = ((x / 2 ^ k : Nat) : Int) := by rw [Int.natCast_ediv, Int.natCast_pow]; rfl
  have hl : x / 2 ^ k ≤ x := Nat.div_le_self _ _
  rw [e]
  have h := u8_and_nat (x / 2 ^ k) 1 (by omega) (by omega)
  rw [nat_mask1] at h
  exact h
theorem pw_zero (n : Int) : pw n 0 = 1 := by unfold pw; rw [Int.pow_zero]; decide

set_option maxHeartbeats 4000000 in
set_option maxRecDepth 100000 in
theorem Power_fe (a : Int) (ra : R256 a) (g o len cap : Nat) (c : Array Value) (T : TypeId) (b : Nat → Nat) (hb : ∀ i, i < len → b i < 256) (hc : ∀ i, i < len → c[o + i]? = some (.int .u8 ((b i : Nat) : Int))) (hlen : len < 4611686018427387904) (w : World) (he : Blk w g c T) :
    Calls Try.prog 17 #[fe a, .slice (some ⟨g, o, none⟩) len cap] w fun e w' => e = .returned (fe (pw a (nb b 0 len))) ∧ Chg w w' [] := by
  have hg := he.lt
  go_enter Try.func17, Try.ntmps17
  go_wp2_with fail
  have C0 : Chg w (((w.alloc (.cells (feC a) 23)).alloc (.cells z32 23)).alloc (.cells #[.int .u64 0, .int .u64 0, .int .u64 0, .int .u64 0, .int .u64 0] 79)) [] := (((Chg.refl w []).alloc _).alloc _).alloc _
  have f0 : Blk (((w.alloc (.cells (feC a) 23)).alloc (.cells z32 23)).alloc (.cells #[.int .u64 0, .int .u64 0, .int .u64 0, .int .u64 0, .int .u64 0] 79)) w.heap.size (feC a) 23 := ((Blk.new w (feC a) 23).alloc _).alloc _
  have f1 : Blk (((w.alloc (.cells (feC a) 23)).alloc (.cells z32 23)).alloc (.cells #[.int .u64 0, .int .u64 0, .int .u64 0, .int .u64 0, .int .u64 0] 79)) (w.heap.size + 1) z32 23 := by have h := (Blk.new (w.alloc (.cells (feC a) 23)) z32 23).alloc (.cells #[.int .u64 0, .int .u64 0, .int .u64 0, .int .u64 0, .int .u64 0] 79); simpa using h
  have f2 : Nm (((w.alloc (.cells (feC a) 23)).alloc (.cells z32 23)).alloc (.cells #[.int .u64 0, .int .u64 0, .int .u64 0, .int .u64 0, .int .u64 0] 79)) (w.heap.size + 1 + 1) 0 := by have h := Nm.new ((w.alloc (.cells (feC a) 23)).alloc (.cells z32 23)); simpa using h
  replace he := ((he.alloc (.cells (feC a) 23)).alloc (.cells z32 23)).alloc (.cells #[.int .u64 0, .int .u64 0, .int .u64 0, .int .u64 0, .int .u64 0] 79)
  refine (load_nm (w.heap.size + 1 + 1) w.heap.size a 23 _ ra.1 ra.2 f2.an f0).mono ?_
  rintro e v1 ⟨rfl, x2, k1⟩
  replace f1 := f1.chg k1 (by simp)
  replace he := he.chg k1 (by simp <;> omega)
  replace C0 := C0.new k1 (by omega)
  have sz : w.heap.size + 1 + 1 < v1.heap.size := x2.lt
  clear f0 f2 k1
  go_wp2_with fail
  have q0 : Nm (v1.alloc (.cells #[.int .u64 1, .int .u64 0, .int .u64 0, .int .u64 0, .int .u64 0] 79)) v1.heap.size (pw a (nb b len (len - len))) := by
    rw [Nat.sub_self]
    show Nm _ _ (pw a 0)
    rw [pw_zero]
    exact ⟨1, 0, 0, 0, 0, Blk.new v1 _ _, ⟨⟨by decide, by decide⟩, ⟨by decide, by decide⟩, ⟨by decide, by decide⟩, ⟨by decide, by decide⟩, ⟨by decide, by decide⟩⟩, by decide⟩
  have q1 := x2.alloc (.cells #[.int .u64 1, .int .u64 0, .int .u64 0, .int .u64 0, .int .u64 0] 79)
  have q2 := he.alloc (.cells #[.int .u64 1, .int .u64 0, .int .u64 0, .int .u64 0, .int .u64 0] 79)
  have q3 := f1.alloc (.cells #[.int .u64 1, .int .u64 0, .int .u64 0, .int .u64 0, .int .u64 0] 79)
  have q4 := C0.alloc (.cells #[.int .u64 1, .int .u64 0, .int .u64 0, .int .u64 0, .int .u64 0] 79)
  clear x2 he f1 C0
  generalize v1.alloc (.cells #[.int .u64 1, .int .u64 0, .int .u64 0, .int .u64 0, .int .u64 0] 79) = v2 at *
  generalize v1.heap.size = q at *
  have hgq : ¬ g = q := by omega
  go_loopw [7] (fun t wr => ∃ k : Nat, k ≤ len ∧ t = .int .i64 ((k : Int) - 1) ∧ Nm wr q (pw a (nb b k (len - k))) ∧ Nm wr (w.heap.size + 1 + 1) (a % P) ∧ Blk wr g c T ∧ Blk wr (w.heap.size + 1) z32 23 ∧ Chg w wr []) (fun t _ => (intOf t + 1).toNat)
  case atStart => exact ⟨len, Nat.le_refl _, rfl, q0, q1, q2, q3, q4⟩
  case round =>
    obtain ⟨k, hk, rfl, r0, r1, r2, r3, r4⟩ := hrel
    clear q0 q1 q2 q3 q4
    by_cases hk0 : k = 0
    · subst hk0
      rw [Nat.sub_zero] at r0
      have neg1 : ¬ (0 : Int) ≤ ((0 : Nat) : Int) - 1 := by omega
      go_wp2_with fail
      refine (bytes_nm q _ _ r0).mono ?_
      rintro e v3 ⟨rfl, t0, k3⟩
      have t3 := r3.chg k3 (by simp; omega)
      have t4 := r4.new k3 (by omega)
      go_wp2_with (refine wpList_store_row rfl 23 _ _ rfl (w.heap.size + 1) _ rfl rfl 23 _ t3 feInfo rfl (feC_one _) ?_)
      exact bodyPost_ret (results_cell_row Try.results17 _ _ (w.heap.size + 1) 23 (feC (pw a (nb b 0 len))) (0, 0) _ rfl (Blk.setRow t3 _) Try.underlying23 rfl feInfo) rfl ⟨rfl, t4.setRowNew (by omega) _⟩
    · obtain ⟨i, rfl⟩ : ∃ i, k = i + 1 := ⟨k - 1, by omega⟩
      have hbi := hb i (by omega)
      have e1 : (((i + 1 : Nat) : Int) - 1) = (i : Int) := by omega
      rw [e1]
      clear e1 hk0
      have hE : nb b i (len - i) = nb b (i + 1) (len - (i + 1)) * 2 ^ 8 + b i / 2 ^ (8 - 8) := by
        have e2 : len - i = (len - (i + 1)) + 1 := by omega
        rw [e2]
        show b i + 256 * nb b (i + 1) (len - (i + 1)) = _
        simp only [Nat.sub_self, Nat.pow_zero, Nat.div_one]
        omega
      have HE : Hid (nb b i (len - i) = nb b (i + 1) (len - (i + 1)) * 2 ^ 8 + b i / 2 ^ (8 - 8)) := hE
      clear hE
      generalize nb b (i + 1) (len - (i + 1)) = E at *
      go_wp2_with fail
      go_loopw [8] (fun t wr => ∃ m : Nat, m ≤ 8 ∧ t = .int .i64 (7 - (m : Int)) ∧ Nm wr q (pw a (E * 2 ^ m + b i / 2 ^ (8 - m))) ∧ Nm wr (w.heap.size + 1 + 1) (a % P) ∧ Blk wr g c T ∧ Blk wr (w.heap.size + 1) z32 23 ∧ Chg w wr []) (fun t _ => (intOf t + 1).toNat)
      case atStart => exact ⟨0, by omega, rfl, by rw [Nat.pow_zero, Nat.mul_one, Nat.div_eq_of_lt (by omega), Nat.add_zero]; exact r0, r1, r2, r3, r4⟩
      case round =>
        obtain ⟨m, hm, rfl, s0, s1, s2, s3, s4⟩ := hrel
        by_cases hm8 : m < 8
        · have hm7 : (0 : Int) ≤ 7 - (m : Int) := by omega
          have hst := bit_step E (b i) m hm8
          have HST : Hid (E * 2 ^ (m + 1) + b i / 2 ^ (8 - (m + 1)) = 2 * (E * 2 ^ m + b i / 2 ^ (8 - m)) + b i / 2 ^ (7 - m) % 2) := hst
          clear hst
          have hlb := low_bit (b i) (7 - m) hbi
          go_wp2_with fail
          refine (square_nm q q _ _ s0.an s0).mono ?_
          rintro e v3 ⟨rfl, t0, k3⟩
          rw [pw_dbl] at t0
          have t1 := s1.chg k3 (by simp; omega)
          have t2 := s2.chg k3 (by simp; omega)
          have t3 := s3.chg k3 (by simp; omega)
          have t4 := s4.new k3 (by omega)
          have cl : v3.cell? ⟨g, o + i, none⟩ = some (.int .u8 ((b i : Nat) : Int)) := (t2.cell (o + i)).trans (hc i (by omega))
          rcases Nat.mod_two_eq_zero_or_one (b i / 2 ^ (7 - m)) with hz | hz
          · rw [hz] at hlb
            have HZ : Hid (b i / 2 ^ (7 - m) % 2 = 0) := hz
            clear hz
            go_wp2_with fail
            go_roundw
            case rel => exact ⟨m + 1, by omega, by go_num, by rw [HST.out, HZ.out]; exact t0, t1, t2, t3, t4⟩
            case measure => simp [intOf]; omega
          · rw [hz] at hlb
            have HZ : Hid (b i / 2 ^ (7 - m) % 2 = 1) := hz
            clear hz
            go_wp2_with fail
            refine (mul_nm q q (w.heap.size + 1 + 1) _ _ _ t0.an t0 t1).mono ?_
            rintro e v4 ⟨rfl, p0, k4⟩
            rw [pw_inc] at p0
            have p1 := t1.chg k4 (by simp; omega)
            have p2 := t2.chg k4 (by simp; omega)
            have p3 := t3.chg k4 (by simp; omega)
            have p4 := t4.new k4 (by omega)
            clear cl
            go_wp2_with fail
            go_roundw
            case rel => exact ⟨m + 1, by omega, by go_num, by rw [HST.out, HZ.out]; exact p0, p1, p2, p3, p4⟩
            case measure => simp [intOf]; omega
        · have hm9 : m = 8 := by omega
          subst hm9
          have hneg : ¬ (0 : Int) ≤ 7 - ((8 : Nat) : Int) := by omega
          go_wp2_with fail
          go_roundw
          case rel => exact ⟨i, by omega, rfl, by rw [HE.out]; exact s0, s1, s2, s3, s4⟩
          case measure => simp [intOf]
end Go.Proofs.Ytialljmkkichiab
