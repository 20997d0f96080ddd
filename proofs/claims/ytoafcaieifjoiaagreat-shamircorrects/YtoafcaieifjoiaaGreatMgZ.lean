/- Joined: Lst, Lst2. -/
import Derived.Test.YtoafcaieifjoiaaGreatLoadAt
import Derived.Test.YtoafcaieifjoiaaGreatFun2
import Derived.Test.YtoafcaieifjoiaaGreatMgB
import Derived.Test.YtoafcaieifjoiaaGreatMgC
/- Lists of scalars: scalar.Sum. -/
set_option linter.unusedVariables false
set_option linter.unusedSimpArgs false
set_option linter.unnecessarySimpa false
namespace Go.Proofs.YtoafcaieifjoiaaGreat
open Go.RowKit N

/-- The sum of the first k. -/
def sL (f : Nat → Nat) : Nat → Int
  | 0 => 0
  | k + 1 => sL f k + ((f k : Nat) : Int)
theorem sL_0 (f : Nat → Nat) : sL f 0 = 0 := rfl
theorem sL_s (f : Nat → Nat) (k : Nat) : (sL f k % L + ((f k : Nat) : Int) % L) % L = sL f (k + 1) % L := by
  show _ = (sL f k + ((f k : Nat) : Int)) % L
  rw [← Int.add_emod]
set_option maxHeartbeats 8000000 in
set_option maxRecDepth 100000 in
theorem Sum_s (v : Value) (N : Nat) (f : Nat → Nat) (hN : N ≤ 140737488355328) (w : World) (hL : Ls w v N f) (T : Int) (hT : sL f N % L = T) :
    Calls Tryz.prog 140 #[v] w fun e w' => e = .returned (fe T) ∧ Chg w w' [] := by
  obtain ⟨p, cp, rfl, hp⟩ := hL.form
  have hb := hL.1
  have hW : Chg w (((w.alloc (.cells z32 24)).alloc (.cells #[.int .u64 0, .int .u64 0, .int .u64 0, .int .u64 0] 162)).alloc (.cells #[.int .u64 0, .int .u64 0, .int .u64 0, .int .u64 0] 162)) [] := (((Chg.refl w []).alloc _).alloc _).alloc _
  have f0 : Blk (((w.alloc (.cells z32 24)).alloc (.cells #[.int .u64 0, .int .u64 0, .int .u64 0, .int .u64 0] 162)).alloc (.cells #[.int .u64 0, .int .u64 0, .int .u64 0, .int .u64 0] 162)) w.heap.size z32 24 := ((Blk.new w z32 24).alloc _).alloc _
  have f1 : NumAt (((w.alloc (.cells z32 24)).alloc (.cells #[.int .u64 0, .int .u64 0, .int .u64 0, .int .u64 0] 162)).alloc (.cells #[.int .u64 0, .int .u64 0, .int .u64 0, .int .u64 0] 162)) (w.heap.size + 1) 0 := by have h := (NumAt.new (w.alloc (.cells z32 24))).alloc (.cells #[.int .u64 0, .int .u64 0, .int .u64 0, .int .u64 0] 162); simpa using h
  have f2 : NumAt (((w.alloc (.cells z32 24)).alloc (.cells #[.int .u64 0, .int .u64 0, .int .u64 0, .int .u64 0] 162)).alloc (.cells #[.int .u64 0, .int .u64 0, .int .u64 0, .int .u64 0] 162)) (w.heap.size + 1 + 1) 0 := by have h := NumAt.new ((w.alloc (.cells z32 24)).alloc (.cells #[.int .u64 0, .int .u64 0, .int .u64 0, .int .u64 0] 162)); simpa using h
  go_enter Tryz.func140, Tryz.ntmps140
  go_wp2_with fail
  try (change Code.wp _ _ _ _ (((w.alloc (.cells z32 24)).alloc (.cells #[.int .u64 0, .int .u64 0, .int .u64 0, .int .u64 0] 162)).alloc (.cells #[.int .u64 0, .int .u64 0, .int .u64 0, .int .u64 0] 162)))
  generalize (((w.alloc (.cells z32 24)).alloc (.cells #[.int .u64 0, .int .u64 0, .int .u64 0, .int .u64 0] 162)).alloc (.cells #[.int .u64 0, .int .u64 0, .int .u64 0, .int .u64 0] 162)) = v0 at *
  have h0 : sL f 0 % L = 0 := by rw [sL_0]; unfold L; decide
  have f2a := f2.an
  go_loopw [8] (fun t wr => ∃ i : Nat, i ≤ N ∧ t = .int .i64 (i : Int) ∧ Blk wr w.heap.size z32 24 ∧ NumAt wr (w.heap.size + 1) (sL f i % L) ∧ An wr (w.heap.size + 1 + 1) ∧ Chg w wr []) (fun t _ => (N - intOf t).toNat)
  case atStart => exact ⟨0, Nat.zero_le _, rfl, f0, by rw [h0]; exact f1, f2a, hW⟩
  case round =>
    clear f0 f1 f2 f2a hW h0
    obtain ⟨i, hi, rfl, c0, c1, c2, cC⟩ := hrel
    by_cases h : i < N
    · have hI : (i : Int) < (N : Int) := by omega
      have hI0 : (0 : Int) ≤ (i : Int) := by omega
      have HM : Hid _ := mN N i h
      have HI1 : Hid (i + 1 ≤ N) := h
      obtain ⟨g, o, rfl, hg, hF⟩ := hp i h
      have r1 : R256 ((f i : Nat) : Int) := by have := hb i h; exact ⟨by omega, by omega⟩
      have hF' := hF.chg cC (by simp)
      have hs := sL_s f i
      have HS : Hid ((sL f i % L + ((f i : Nat) : Int) % L) % L = sL f (i + 1) % L) := hs
      have hgn : ¬ g = w.heap.size + 1 + 1 := by omega
      have HB : Hid (w.heap.size ≤ w.heap.size + 1 + 1) := by show w.heap.size ≤ w.heap.size + 1 + 1; omega
      have HB1 : Hid (w.heap.size ≤ w.heap.size + 1) := by show w.heap.size ≤ w.heap.size + 1; omega
      have HD1 : Hid (¬ w.heap.size = w.heap.size + 1 + 1) := by show ¬ w.heap.size = w.heap.size + 1 + 1; omega
      have HD2 : Hid (¬ w.heap.size = w.heap.size + 1) := by show ¬ w.heap.size = w.heap.size + 1; omega
      have HD3 : Hid (¬ w.heap.size + 1 = w.heap.size + 1 + 1) := by show ¬ w.heap.size + 1 = w.heap.size + 1 + 1; omega
      have HD4 : Hid (¬ w.heap.size + 1 + 1 = w.heap.size + 1) := by show ¬ w.heap.size + 1 + 1 = w.heap.size + 1; omega
      clear hs h hi hp hb
      go_wp2_with fail
      refine (load_at (w.heap.size + 1 + 1) g (o + i * 32) ((f i : Nat) : Int) r1 hgn wr c2 hF').mono ?_
      rintro e x1 ⟨rfl, z2, k⟩
      replace c0 := c0.chg k (by simpa using HD1.out)
      replace c1 := c1.chg k (by simpa using HD3.out)
      replace cC := cC.new k HB.out
      clear k hF hF' c2
      go_wp2_with fail
      refine (add_any (w.heap.size + 1) (w.heap.size + 1) (w.heap.size + 1 + 1) _ _ (rl_mod _) (rl_mod _) x1 c1.an c1 z2).mono ?_
      rintro e x2 ⟨rfl, z1, k0⟩
      have k := Chg.of k0
      rw [HS.out] at z1
      replace c0 := c0.chg k (by simpa using HD2.out)
      replace z2 := z2.chg k (by simpa using HD4.out)
      replace cC := cC.new k HB1.out
      clear k k0 c1
      go_wp2_with fail
      exact ⟨⟨i + 1, HI1.out, by go_num, c0, z1, z2.an, cC⟩, HM.out⟩
    · obtain rfl : i = N := by omega
      have hI : ¬ (i : Int) < (i : Int) := by omega
      rw [hT] at c1
      go_wp2_with fail
      refine (bytes_any (w.heap.size + 1) T (by rw [← hT]; exact r256_mod _) _ c1).mono ?_
      rintro e v3 ⟨rfl, k⟩
      replace c0 := c0.chg k (by simp)
      replace cC := cC.trans1 k
      go_wp2_with (refine wpList_store_row rfl 24 _ _ rfl w.heap.size _ rfl rfl 24 _ c0 feInfo rfl (feC_one _) ?_)
      exact bodyPost_ret (results_cell_row Tryz.results140 _ _ w.heap.size 24 (feC T) (0, 0) _ rfl (Blk.setRow c0 _) Tryz.underlying24 rfl feInfo) rfl ⟨rfl, cC.setRowNew (Nat.le_refl _) _⟩
end Go.Proofs.YtoafcaieifjoiaaGreat

/- scalar.Product and scalar.Dot over lists. -/
namespace Go.Proofs.YtoafcaieifjoiaaGreat
open Go.RowKit N

set_option maxHeartbeats 8000000 in
set_option maxRecDepth 100000 in
theorem Product_s (v : Value) (N : Nat) (f : Nat → Nat) (hN : N ≤ 140737488355328) (w : World) (hL : Ls w v N f) (T : Int) (hT : pL f N % L = T) :
    Calls Tryz.prog 63 #[v] w fun e w' => e = .returned (fe T) ∧ Chg w w' [] := by
  obtain ⟨p, cp, rfl, hp⟩ := hL.form
  have hb := hL.1
  have hW : Chg w (((w.alloc (.cells z32 24)).alloc (.cells #[.int .u64 1, .int .u64 0, .int .u64 0, .int .u64 0] 162)).alloc (.cells #[.int .u64 0, .int .u64 0, .int .u64 0, .int .u64 0] 162)) [] := (((Chg.refl w []).alloc _).alloc _).alloc _
  have f0 : Blk (((w.alloc (.cells z32 24)).alloc (.cells #[.int .u64 1, .int .u64 0, .int .u64 0, .int .u64 0] 162)).alloc (.cells #[.int .u64 0, .int .u64 0, .int .u64 0, .int .u64 0] 162)) w.heap.size z32 24 := ((Blk.new w z32 24).alloc _).alloc _
  have f1 : NumAt (((w.alloc (.cells z32 24)).alloc (.cells #[.int .u64 1, .int .u64 0, .int .u64 0, .int .u64 0] 162)).alloc (.cells #[.int .u64 0, .int .u64 0, .int .u64 0, .int .u64 0] 162)) (w.heap.size + 1) 1 := by
    have h := (Blk.new (w.alloc (.cells z32 24)) #[.int .u64 1, .int .u64 0, .int .u64 0, .int .u64 0] 162).alloc (.cells #[.int .u64 0, .int .u64 0, .int .u64 0, .int .u64 0] 162)
    have h' : Blk (((w.alloc (.cells z32 24)).alloc (.cells #[.int .u64 1, .int .u64 0, .int .u64 0, .int .u64 0] 162)).alloc (.cells #[.int .u64 0, .int .u64 0, .int .u64 0, .int .u64 0] 162)) (w.heap.size + 1) #[.int .u64 1, .int .u64 0, .int .u64 0, .int .u64 0] 162 := by simpa using h
    exact h'
  have f2 : NumAt (((w.alloc (.cells z32 24)).alloc (.cells #[.int .u64 1, .int .u64 0, .int .u64 0, .int .u64 0] 162)).alloc (.cells #[.int .u64 0, .int .u64 0, .int .u64 0, .int .u64 0] 162)) (w.heap.size + 1 + 1) 0 := by have h := NumAt.new ((w.alloc (.cells z32 24)).alloc (.cells #[.int .u64 1, .int .u64 0, .int .u64 0, .int .u64 0] 162)); simpa using h
  go_enter Tryz.func63, Tryz.ntmps63
  go_wp2_with fail
  try (change Code.wp _ _ _ _ (((w.alloc (.cells z32 24)).alloc (.cells #[.int .u64 1, .int .u64 0, .int .u64 0, .int .u64 0] 162)).alloc (.cells #[.int .u64 0, .int .u64 0, .int .u64 0, .int .u64 0] 162)))
  generalize (((w.alloc (.cells z32 24)).alloc (.cells #[.int .u64 1, .int .u64 0, .int .u64 0, .int .u64 0] 162)).alloc (.cells #[.int .u64 0, .int .u64 0, .int .u64 0, .int .u64 0] 162)) = v0 at *
  have h0 : pL f 0 % L = 1 := by rw [pL_0]; unfold L; decide
  have f2a := f2.an
  go_loopw [9] (fun t wr => ∃ i : Nat, i ≤ N ∧ t = .int .i64 (i : Int) ∧ Blk wr w.heap.size z32 24 ∧ NumAt wr (w.heap.size + 1) (pL f i % L) ∧ An wr (w.heap.size + 1 + 1) ∧ Chg w wr []) (fun t _ => (N - intOf t).toNat)
  case atStart => exact ⟨0, Nat.zero_le _, rfl, f0, by rw [h0]; exact f1, f2a, hW⟩
  case round =>
    clear f0 f1 f2 f2a hW h0
    obtain ⟨i, hi, rfl, c0, c1, c2, cC⟩ := hrel
    by_cases h : i < N
    · have hI : (i : Int) < (N : Int) := by omega
      have hI0 : (0 : Int) ≤ (i : Int) := by omega
      have HM : Hid _ := mN N i h
      have HI1 : Hid (i + 1 ≤ N) := h
      obtain ⟨g, o, rfl, hg, hF⟩ := hp i h
      have r1 : R256 ((f i : Nat) : Int) := by have := hb i h; exact ⟨by omega, by omega⟩
      have hF' := hF.chg cC (by simp)
      have hs := pL_s f i
      have HS : Hid (pL f i % L * (((f i : Nat) : Int) % L) % L = pL f (i + 1) % L) := hs
      have hgn : ¬ g = w.heap.size + 1 + 1 := by omega
      have HB : Hid (w.heap.size ≤ w.heap.size + 1 + 1) := by show w.heap.size ≤ w.heap.size + 1 + 1; omega
      have HB1 : Hid (w.heap.size ≤ w.heap.size + 1) := by show w.heap.size ≤ w.heap.size + 1; omega
      have HD1 : Hid (¬ w.heap.size = w.heap.size + 1 + 1) := by show ¬ w.heap.size = w.heap.size + 1 + 1; omega
      have HD2 : Hid (¬ w.heap.size = w.heap.size + 1) := by show ¬ w.heap.size = w.heap.size + 1; omega
      have HD3 : Hid (¬ w.heap.size + 1 = w.heap.size + 1 + 1) := by show ¬ w.heap.size + 1 = w.heap.size + 1 + 1; omega
      have HD4 : Hid (¬ w.heap.size + 1 + 1 = w.heap.size + 1) := by show ¬ w.heap.size + 1 + 1 = w.heap.size + 1; omega
      clear hs h hi hp hb
      go_wp2_with fail
      refine (load_at (w.heap.size + 1 + 1) g (o + i * 32) ((f i : Nat) : Int) r1 hgn wr c2 hF').mono ?_
      rintro e x1 ⟨rfl, z2, k⟩
      replace c0 := c0.chg k (by simpa using HD1.out)
      replace c1 := c1.chg k (by simpa using HD3.out)
      replace cC := cC.new k HB.out
      clear k hF hF' c2
      go_wp2_with fail
      refine (mul_any (w.heap.size + 1) (w.heap.size + 1) (w.heap.size + 1 + 1) _ _ (rl_mod _) (rl_mod _) x1 c1.an c1 z2).mono ?_
      rintro e x2 ⟨rfl, z1, k⟩
      rw [HS.out] at z1
      replace c0 := c0.chg k (by simpa using HD2.out)
      replace z2 := z2.chg k (by simpa using HD4.out)
      replace cC := cC.new k HB1.out
      clear k c1
      go_wp2_with fail
      exact ⟨⟨i + 1, HI1.out, by go_num, c0, z1, z2.an, cC⟩, HM.out⟩
    · obtain rfl : i = N := by omega
      have hI : ¬ (i : Int) < (i : Int) := by omega
      rw [hT] at c1
      go_wp2_with fail
      refine (bytes_any (w.heap.size + 1) T (by rw [← hT]; exact r256_mod _) _ c1).mono ?_
      rintro e v3 ⟨rfl, k⟩
      replace c0 := c0.chg k (by simp)
      replace cC := cC.trans1 k
      go_wp2_with (refine wpList_store_row rfl 24 _ _ rfl w.heap.size _ rfl rfl 24 _ c0 feInfo rfl (feC_one _) ?_)
      exact bodyPost_ret (results_cell_row Tryz.results63 _ _ w.heap.size 24 (feC T) (0, 0) _ rfl (Blk.setRow c0 _) Tryz.underlying24 rfl feInfo) rfl ⟨rfl, cC.setRowNew (Nat.le_refl _) _⟩
end Go.Proofs.YtoafcaieifjoiaaGreat
