/- rimeref01.Split, field.Split: the same five limbs. -/
import Derived.Test.YtialljmkkichiaaRLimM
import Derived.Test.YtialljmkkichiaaRFun
import Derived.Laws.Bits64b
set_option linter.unusedVariables false
set_option linter.unusedSimpArgs false
set_option linter.unnecessarySimpa false
namespace Go.Proofs.Ytialljmkkichiaa
open Go.RowKit N

theorem lInfo5 (f : Nat → Nat) : (Try.prog.info? 71).map (·.size) = some (uC 5 f).size := by rw [uC_size]; kernel_rfl
theorem Split_lim (a : Int) (ra : R256 a) (w : World) : Calls Try.prog 57 #[fe a] w fun e w' => e = .returned (.agg (uC 5 (lf (rd a) 255))) ∧ Chg w w' [] := by
  refine (Split_fe a ra w).mono ?_
  rintro e w' ⟨⟨l0, l1, l2, l3, l4, rfl, ⟨h0, h1, h2, h3, h4⟩, hv⟩, k⟩
  rw [← rd_int a ra.1] at hv
  rw [limbs_of l0 l1 l2 l3 l4 (rd a) h0 h1 h2 h3 h4 hv]
  exact ⟨rfl, k⟩
theorem z5_lf (n : Nat) : (#[.int .u64 0, .int .u64 0, .int .u64 0, .int .u64 0, .int .u64 0] : Array Value) = uC 5 (lf n 0) := by
  rw [uC_congr 5 (lf n 0) (fun _ => 0) (fun i _ => lf_zero n i)]
  rfl

set_option maxHeartbeats 4000000 in
set_option maxRecDepth 100000 in
theorem Split_r (a : Int) (ra : R256 a) (w : World) : Calls Try.prog 58 #[fe a] w fun e w' => e = .returned (.agg (uC 5 (lf (rd a) 255))) ∧ Chg w w' [] := by
  have F0 : Blk ((w.alloc (.cells (feC a) 24)).alloc (.cells #[.int .u64 0, .int .u64 0, .int .u64 0, .int .u64 0, .int .u64 0] 71)) w.heap.size (feC a) 24 := (Blk.new w (feC a) 24).alloc _
  have F1 : Blk ((w.alloc (.cells (feC a) 24)).alloc (.cells #[.int .u64 0, .int .u64 0, .int .u64 0, .int .u64 0, .int .u64 0] 71)) (w.heap.size + 1) #[.int .u64 0, .int .u64 0, .int .u64 0, .int .u64 0, .int .u64 0] 71 := by have h := Blk.new (w.alloc (.cells (feC a) 24)) #[.int .u64 0, .int .u64 0, .int .u64 0, .int .u64 0, .int .u64 0] 71; simpa using h
  have C0 := ((Chg.refl w []).alloc (.cells (feC a) 24)).alloc (.cells #[.int .u64 0, .int .u64 0, .int .u64 0, .int .u64 0, .int .u64 0] 71)
  obtain ⟨n, hn⟩ : ∃ n, n = rd a := ⟨_, rfl⟩
  rw [← hn]
  go_enter Try.func58, Try.ntmps58
  go_wp2_with (refine wpList_load_row rfl 24 _ rfl w.heap.size rfl 24 _ (0, 0) _ F0 Try.underlying24 rfl feInfo ?_)
  refine (Value_r a ra _).mono ?_
  rintro e v1 ⟨rfl, k⟩
  replace F1 := F1.chg k (by simp)
  replace C0 := C0.trans1 k
  clear k F0
  rw [← hn]
  clear hn
  go_wp2_with fail
  refine (Back_r n _).mono ?_
  rintro e v2 ⟨rfl, k⟩
  replace F1 := F1.chg k (by simp)
  replace C0 := C0.trans1 k
  clear k
  have sz := F1.lt
  have A3 : Blk (v2.alloc (.cells z32 24)) v2.heap.size z32 24 := Blk.new v2 z32 24
  go_wp2_with (refine wpList_store_row rfl 24 _ _ rfl v2.heap.size _ rfl rfl 24 _ A3 feInfo rfl (feC_one _) ?_)
  have B1 : Blk (((v2.alloc (.cells z32 24)).setRow v2.heap.size (feC ((n : Nat) : Int))).alloc (.cells #[.int .u64 0, .int .u64 0, .int .u64 0, .int .u64 0, .int .u64 0] 71)) (w.heap.size + 1) #[.int .u64 0, .int .u64 0, .int .u64 0, .int .u64 0, .int .u64 0] 71 := ((F1.alloc _).setRowOther (by omega) _).alloc _
  have B3 : Blk (((v2.alloc (.cells z32 24)).setRow v2.heap.size (feC ((n : Nat) : Int))).alloc (.cells #[.int .u64 0, .int .u64 0, .int .u64 0, .int .u64 0, .int .u64 0] 71)) v2.heap.size (feC ((n : Nat) : Int)) 24 := (A3.setRow _).alloc _
  have B4 : Blk (((v2.alloc (.cells z32 24)).setRow v2.heap.size (feC ((n : Nat) : Int))).alloc (.cells #[.int .u64 0, .int .u64 0, .int .u64 0, .int .u64 0, .int .u64 0] 71)) (v2.heap.size + 1) (uC 5 (lf n 0)) 71 := by have h := Blk.new ((v2.alloc (.cells z32 24)).setRow v2.heap.size (feC ((n : Nat) : Int))) #[.int .u64 0, .int .u64 0, .int .u64 0, .int .u64 0, .int .u64 0] 71; rw [← z5_lf]; simpa using h
  have CC : Chg w (((v2.alloc (.cells z32 24)).setRow v2.heap.size (feC ((n : Nat) : Int))).alloc (.cells #[.int .u64 0, .int .u64 0, .int .u64 0, .int .u64 0, .int .u64 0] 71)) [] := ((C0.alloc (.cells z32 24)).setRowNew C0.size _).alloc _
  clear A3 F1
  generalize hG : v2.heap.size = G at *
  have hwG : w.heap.size + 1 < G := sz
  have hG2 : w.heap.size ≤ G + 1 := by omega
  go_loopw [5] (fun t wr => ∃ i : Nat, i ≤ 255 ∧ t = .int .i64 (i : Int) ∧ Blk wr (w.heap.size + 1) #[.int .u64 0, .int .u64 0, .int .u64 0, .int .u64 0, .int .u64 0] 71 ∧ Blk wr G (feC ((n : Nat) : Int)) 24 ∧ Blk wr (G + 1) (uC 5 (lf n i)) 71 ∧ Chg w wr []) (fun t _ => (255 - intOf t).toNat)
  case atStart => exact ⟨0, by omega, rfl, B1, B3, B4, CC⟩
  case round =>
    obtain ⟨i, hi, rfl, b1, b3, b4, c0⟩ := hrel
    clear B1 B3 B4 CC C0
    by_cases hi5 : i < 255
    · have hI : (i : Int) < 255 := by omega
      obtain ⟨q, hq⟩ : ∃ q, q = i / 8 := ⟨_, rfl⟩
      obtain ⟨s, hs⟩ : ∃ s, s = i % 8 := ⟨_, rfl⟩
      obtain ⟨j, hj⟩ : ∃ j, j = i / 51 := ⟨_, rfl⟩
      obtain ⟨r, hr⟩ : ∃ r, r = i % 51 := ⟨_, rfl⟩
      have q1 : (i : Int) / 8 = (q : Int) := by omega
      have q2 : (i : Int) % 8 = (s : Int) := by omega
      have q3 : (i : Int) / 51 = (j : Int) := by omega
      have q4 : (i : Int) % 51 = (r : Int) := by omega
      have q5 : (q : Int) < 32 := by omega
      have q6 : (j : Int) < 5 := by omega
      have q7 : (s : Int) < 8 := by omega
      have q8 : (r : Int) < 51 := by omega
      have hs8 : s < 8 := by omega
      have hr51 : r < 51 := by omega
      have ei : i = 51 * j + r := by omega
      have ei8 : i = 8 * q + s := by omega
      obtain ⟨hl1, hl2⟩ := lf_same n j r hr51
      have hst := lf_step n j r
      rw [← ei] at hl1 hl2
      obtain ⟨y, hy⟩ : ∃ y, y = n / 256 ^ q % 256 := ⟨_, rfl⟩
      have hy256 : y < 256 := by rw [hy]; exact Nat.mod_lt _ (by decide)
      obtain ⟨z, hz⟩ : ∃ z, z = y / 2 ^ s := ⟨_, rfl⟩
      have hz256 : z < 256 := Nat.lt_of_le_of_lt (by rw [hz]; exact Nat.div_le_self _ _) hy256
      have hbit : z % 2 = n / 2 ^ i % 2 := by rw [hz, hy, bit_of n q s hs8, ← ei8]
      have h1 : ((y : Nat) : Int) / 2 ^ s = ((z : Nat) : Int) := by rw [hz, Int.natCast_ediv, Int.natCast_pow]; rfl
      have h2 := u64w ((z : Nat) : Int) (by omega) (by omega)
      obtain ⟨bt, hbt⟩ : ∃ b, b = z % 2 := ⟨_, rfl⟩
      have h3 : bits .and .u64 ((z : Nat) : Int) 1 = ((bt : Nat) : Int) := by rw [hbt]; exact and_one z hz256
      obtain ⟨m, hm⟩ : ∃ m, m = bt * 2 ^ r := ⟨_, rfl⟩
      have hm2 : m ≤ 1125899906842624 := by
        have h := two_r r hr51
        have h' : bt * 2 ^ r ≤ 1 * 2 ^ r := Nat.mul_le_mul_right _ (by omega)
        omega
      have h4 : IntKind.u64.wrap (((bt : Nat) : Int) * 2 ^ r) = ((m : Nat) : Int) := by
        have e : ((bt : Nat) : Int) * 2 ^ r = ((m : Nat) : Int) := by rw [hm, Int.natCast_mul, Int.natCast_pow]; rfl
        rw [e]
        exact u64w _ (by omega) (by omega)
      obtain ⟨L, hL⟩ : ∃ L, L = lf n i j := ⟨_, rfl⟩
      obtain ⟨M, hM⟩ : ∃ M, M = lf n (i + 1) j := ⟨_, rfl⟩
      have h5 : bits .or .u64 ((L : Nat) : Int) ((m : Nat) : Int) = ((M : Nat) : Int) := by
        rw [hm, or_limb L bt r (by rw [hL]; exact hl2) (by omega) hr51, hM, hL, hl1, hbt, hbit]
      have cB : wr.cell? ⟨G, q, none⟩ = some (.int .u8 ((y : Nat) : Int)) := by rw [b3.cell, feC_get _ q (by omega), by8_nat, hy]
      have cL : wr.cell? ⟨G + 1, j, none⟩ = some (.int .u64 ((L : Nat) : Int)) := by rw [b4.cell, uC_get 5 _ j (by omega), hL]
      have fL := b4.frozen j
      have b4n : Blk (wr.setCell ⟨G + 1, j, none⟩ (.int .u64 ((M : Nat) : Int))) (G + 1) (uC 5 (lf n (i + 1))) 71 := (b4.setCell j _).to (by rw [uC_set]; refine uC_congr 5 _ _ (fun k _ => ?_); have h := hst k hr51; rw [← ei] at h; rw [hM]; exact h)
      have b1n := b1.setOther (show ¬ w.heap.size + 1 = G + 1 by omega) j (.int .u64 ((M : Nat) : Int))
      have b3n := b3.setOther (show ¬ G = G + 1 by omega) j (.int .u64 ((M : Nat) : Int))
      have cn := c0.new (Chg.of (gb_set (gb_refl wr _) j (.int .u64 ((M : Nat) : Int)))) hG2
      clear b1 b3 b4 c0 hq hs hj hr ei ei8 hl1 hl2 hst hy hz hbit hbt hm hL hM
      go_wp2_with fail
      go_roundw
      case rel => exact ⟨i + 1, by omega, by go_num, b1n, b3n, b4n, cn⟩
      case measure => simp [intOf]; omega
    · have hi2 : i = 255 := by omega
      subst hi2
      clear hi hi5
      go_wp2_with (first | (refine wpList_load_row rfl 71 _ rfl (G + 1) rfl 71 _ (0, 0) _ b4 Try.underlying71 rfl (lInfo5 _) ?_) | (refine wpList_store_row rfl 71 _ _ rfl (w.heap.size + 1) _ rfl rfl 71 _ b1 (lInfo5 _) rfl (uC_one _ _) ?_))
      exact bodyPost_ret (results_cell_row Try.results58 _ _ (w.heap.size + 1) 71 (uC 5 (lf n 255)) (0, 0) _ rfl (Blk.setRow b1 _) Try.underlying71 rfl (lInfo5 _)) rfl ⟨rfl, c0.setRowNew (by omega) _⟩
end Go.Proofs.Ytialljmkkichiaa
