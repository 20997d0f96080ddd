/- The document's answer: FromInt, Power, SqrtM1, D; field.D. -/
import Derived.Test.YtialljmkkichiaaRFun3
import Derived.Test.YtialljmkkichiaaAlive
set_option linter.unusedVariables false
set_option linter.unusedSimpArgs false
set_option linter.unnecessarySimpa false
namespace Go.Proofs.Ytialljmkkichiaa
open Go.RowKit N

/-- The bytes, when i of eight have been laid. -/
def ffk (n i j : Nat) : Nat := if j < i then bf n j else 0
theorem ffk_step (n i j : Nat) : upd (ffk n i) i (bf n i) j = ffk n (i + 1) j := by
  by_cases e : j = i
  · subst e; rw [upd_same]; unfold ffk; rw [if_pos (by omega)]
  · rw [upd_other _ _ _ _ e]
    unfold ffk
    by_cases h : j < i
    · rw [if_pos h, if_pos (by omega)]
    · rw [if_neg h, if_neg (by omega)]
theorem ffk_end (n j : Nat) (hn : n < 18446744073709551616) : ffk n 8 j = n / 256 ^ j % 256 := by
  unfold ffk
  by_cases h : j < 8
  · rw [if_pos h]; rfl
  · rw [if_neg h, Nat.div_eq_of_lt]
    exact Nat.lt_of_lt_of_le hn (Nat.le_trans (by decide) (Nat.pow_le_pow_right (by decide) (show 8 ≤ j by omega)))

set_option maxHeartbeats 4000000 in
set_option maxRecDepth 100000 in
theorem FromInt_r (n : Nat) (hn : n < 18446744073709551616) (w : World) : Calls Try.prog 18 #[.int .u64 (n : Int)] w fun e w' => e = .returned (fe ((n : Nat) : Int)) ∧ Chg w w' [] := by
  have B0 : Blk ((w.alloc (.cells z32 24)).alloc (.cells z32 24)) w.heap.size z32 24 := (Blk.new w z32 24).alloc _
  have B1 : Blk ((w.alloc (.cells z32 24)).alloc (.cells z32 24)) (w.heap.size + 1) z32 24 := by have h := Blk.new (w.alloc (.cells z32 24)) z32 24; simpa using h
  replace B1 := B1.to (z32_bC.trans (bC_congr 32 _ (ffk n 0) (fun i _ => by simp [ffk])))
  have C0 := ((Chg.refl w []).alloc (.cells z32 24)).alloc (.cells z32 24)
  have hr : R256 ((n : Nat) : Int) := by unfold R256; omega
  have hrd : Hid (rd ((n : Nat) : Int) = n) := by
    show rd ((n : Nat) : Int) = n
    unfold rd
    rw [Int.toNat_natCast]
    exact Nat.mod_eq_of_lt (by unfold PM; omega)
  go_enter Try.func18, Try.ntmps18
  go_wp2_with fail
  go_loopw [4] (fun t wr => ∃ i : Nat, i ≤ 8 ∧ t = .int .i64 (i : Int) ∧ Blk wr w.heap.size z32 24 ∧ Blk wr (w.heap.size + 1) (bC 32 (ffk n i)) 24 ∧ Chg w wr []) (fun t _ => (8 - intOf t).toNat)
  case atStart => exact ⟨0, by omega, rfl, B0, B1, C0⟩
  case round =>
    obtain ⟨i, hi, rfl, b0, b1, c0⟩ := hrel
    clear B0 B1 C0
    by_cases hi8 : i < 8
    · have hI : (i : Int) < 8 := by omega
      have hI2 : (i : Int) < 32 := by omega
      obtain ⟨z, hz⟩ : ∃ z, z = n / 2 ^ (8 * i) := ⟨_, rfl⟩
      obtain ⟨y, hy⟩ : ∃ y, y = bf n i := ⟨_, rfl⟩
      have h1 : ((n : Nat) : Int) / 2 ^ (8 * i) = ((z : Nat) : Int) := by rw [hz, Int.natCast_ediv, Int.natCast_pow]; rfl
      have h2 : IntKind.u8.wrap ((z : Nat) : Int) = ((y : Nat) : Int) := by rw [IntKind.wrap_u8', hy, hz]; unfold bf; rw [pow_256]; omega
      have cb := (b1.cell i).trans (bC_get 32 (ffk n i) i (by omega))
      have fb := b1.frozen i
      have b1n : Blk (wr.setCell ⟨w.heap.size + 1, i, none⟩ (.int .u8 ((y : Nat) : Int))) (w.heap.size + 1) (bC 32 (ffk n (i + 1))) 24 := (b1.setCell i _).to ((bC_set 32 (ffk n i) i y).trans (bC_congr 32 _ _ (fun j _ => by rw [hy]; exact ffk_step n i j)))
      have b0n := b0.setOther (show ¬ w.heap.size = w.heap.size + 1 by omega) i (.int .u8 ((y : Nat) : Int))
      have cn := c0.new (Chg.of (gb_set (gb_refl wr _) i (.int .u8 ((y : Nat) : Int)))) (show w.heap.size ≤ w.heap.size + 1 by omega)
      clear b0 b1 c0 hz hy
      go_wp2_with fail
      go_roundw
      case rel => exact ⟨i + 1, by omega, by go_num, b0n, b1n, cn⟩
      case measure => simp [intOf]; omega
    · have hi2 : i = 8 := by omega
      subst hi2
      replace b1 := b1.to ((bC_congr 32 _ _ (fun j _ => ffk_end n j hn)).trans (bC_fe n))
      clear hi hi8
      go_wp2_with (refine wpList_load_row rfl 24 _ rfl (w.heap.size + 1) rfl 24 _ (0, 0) _ b1 Try.underlying24 rfl feInfo ?_)
      refine (Value_r ((n : Nat) : Int) hr _).mono ?_
      rintro e v1 ⟨rfl, k⟩
      rw [hrd.out]
      replace b0 := b0.chg k (by simp)
      replace c0 := c0.trans1 k
      clear k b1
      go_wp2_with fail
      refine (Back_r n _).mono ?_
      rintro e v2 ⟨rfl, k⟩
      replace b0 := b0.chg k (by simp)
      replace c0 := c0.trans1 k
      clear k
      go_wp2_with (refine wpList_store_row rfl 24 _ _ rfl w.heap.size _ rfl rfl 24 _ b0 feInfo rfl (feC_one _) ?_)
      exact bodyPost_ret (results_cell_row Try.results18 _ _ w.heap.size 24 (feC ((n : Nat) : Int)) (0, 0) _ rfl (Blk.setRow b0 _) Try.underlying24 rfl feInfo) rfl ⟨rfl, c0.setRowNew (Nat.le_refl _) _⟩

set_option maxHeartbeats 4000000 in
set_option maxRecDepth 100000 in
theorem Power_rs (a : Int) (ra : R256 a) (g o len cap : Nat) (b : Nat → Nat) (hlen : len ≤ 9223372036854775807) (w : World) (hB : Bs w g o len b) :
    Calls Try.prog 40 #[fe a, .slice (some ⟨g, o, none⟩) len cap] w fun e w' => e = .returned (fe (pw a (nb b 0 len))) ∧ Chg w w' [] := by
  have F0 : Blk ((w.alloc (.cells (feC a) 24)).alloc (.cells z32 24)) w.heap.size (feC a) 24 := (Blk.new w (feC a) 24).alloc _
  have F2 : Blk ((w.alloc (.cells (feC a) 24)).alloc (.cells z32 24)) (w.heap.size + 1) z32 24 := by have h := Blk.new (w.alloc (.cells (feC a) 24)) z32 24; simpa using h
  have C0 := ((Chg.refl w []).alloc (.cells (feC a) 24)).alloc (.cells z32 24)
  replace hB := hB.chg C0 (by simp)
  obtain ⟨p, hp⟩ : ∃ p, p = pwP (rd a) (nb b 0 len) := ⟨_, rfl⟩
  have hpi : pw a (nb b 0 len) = ((p : Nat) : Int) := by rw [hp, rpw a ra.1]
  rw [hpi]
  clear hpi
  go_enter Try.func40, Try.ntmps40
  go_wp2_with (refine wpList_load_row rfl 24 _ rfl w.heap.size rfl 24 _ (0, 0) _ F0 Try.underlying24 rfl feInfo ?_)
  refine (Value_r a ra _).mono ?_
  rintro e v1 ⟨rfl, k⟩
  replace F2 := F2.chg k (by simp)
  replace hB := hB.chg k (by simp)
  replace C0 := C0.trans1 k
  clear k
  clear F0
  go_wp2_with fail
  refine (power_r (rd a) (rd256 a) g o len cap b hlen _ hB).mono ?_
  rintro e v2 ⟨rfl, k⟩
  rw [← hp]
  replace F2 := F2.chg k (by simp)
  replace C0 := C0.trans1 k
  clear k
  clear hp hB
  go_wp2_with fail
  refine (Back_r p _).mono ?_
  rintro e v3 ⟨rfl, k⟩
  replace F2 := F2.chg k (by simp)
  replace C0 := C0.trans1 k
  clear k
  go_wp2_with (refine wpList_store_row rfl 24 _ _ rfl (w.heap.size + 1) _ rfl rfl 24 _ F2 feInfo rfl (feC_one _) ?_)
  exact bodyPost_ret (results_cell_row Try.results40 _ _ (w.heap.size + 1) 24 (feC (((p : Nat) : Int))) (0, 0) _ rfl (Blk.setRow F2 _) Try.underlying24 rfl feInfo) rfl ⟨rfl, C0.setRowNew (by omega) _⟩

theorem pw2q : pw 2 14474011154664524427946373126085988481658748083205070504932198000989141204987 = S1 := (pw_pm 2 14474011154664524427946373126085988481658748083205070504932198000989141204987 256 (by decide +kernel)).trans (by unfold S1; decide +kernel)
theorem abS1 : ab S1 = S1 := by unfold ab sel S1; decide +kernel
theorem exq : nb (bf (exn 1 / 2 ^ 2)) 0 32 = 14474011154664524427946373126085988481658748083205070504932198000989141204987 := by rw [nb_exp _ (ex_lt 1 2)]; decide +kernel
set_option maxHeartbeats 4000000 in
set_option maxRecDepth 100000 in
theorem SqrtM1_r (w : World) : Calls Try.prog 56 #[] w fun e w' => e = .returned (fe S1) ∧ Chg w w' [] := by
  have F2 := Blk.new w z32 24
  have C0 := (Chg.refl w []).alloc (.cells z32 24)
  have h2 : R256 ((2 : Nat) : Int) := by unfold R256; decide
  go_enter Try.func56, Try.ntmps56
  go_wp2_with fail
  refine (FromInt_r 2 (by decide) _).mono ?_
  rintro e v1 ⟨rfl, k⟩
  replace F2 := F2.chg k (by simp)
  replace C0 := C0.trans1 k
  clear k
  go_wp2_with fail
  refine (exponent_r 1 2 (by decide) (by decide) _).mono ?_
  rintro e v2 ⟨g, rfl, hg, bg, k⟩
  replace F2 := F2.chg k (by simp)
  replace C0 := C0.trans1 k
  clear k
  go_wp2_with fail
  refine (Power_rs ((2 : Nat) : Int) h2 g 0 32 32 (bf (exn 1 / 2 ^ 2)) (by decide) _ (Bs.ofBC bg (fun j _ => bf_lt _ j))).mono ?_
  rintro e v3 ⟨rfl, k⟩
  rw [exq, show ((2 : Nat) : Int) = 2 from rfl, pw2q]
  replace F2 := F2.chg k (by simp)
  replace C0 := C0.trans1 k
  clear k
  clear bg
  go_wp2_with fail
  refine (Abs_r S1 r256_S1 _).mono ?_
  rintro e v4 ⟨rfl, k⟩
  rw [abS1]
  replace F2 := F2.chg k (by simp)
  replace C0 := C0.trans1 k
  clear k
  go_wp2_with (refine wpList_store_row rfl 24 _ _ rfl w.heap.size _ rfl rfl 24 _ F2 feInfo rfl (feC_one _) ?_)
  exact bodyPost_ret (results_cell_row Try.results56 _ _ w.heap.size 24 (feC (S1)) (0, 0) _ rfl (Blk.setRow F2 _) Try.underlying24 rfl feInfo) rfl ⟨rfl, C0.setRowNew (Nat.le_refl _) _⟩

/-- The curve's constant. -/
def D1 : Int := 37095705934669439343138083508754565189542113879843219016388785533085940283555
set_option maxHeartbeats 4000000 in
set_option maxRecDepth 100000 in
theorem D_fe (w : World) : Calls Try.prog 53 #[] w fun e w' => e = .returned (fe D1) ∧ Chg w w' [] := by
  have F0 : Blk (w.alloc (.cells z32 24)) w.heap.size z32 24 := Blk.new w z32 24
  have C0 := (Chg.refl w []).alloc (.cells z32 24)
  go_enter Try.func53, Try.ntmps53
  go_wp2_with (first | (refine wpList_build_fe rfl 24 _ rfl (feC D1) (by kernel_rfl) ?_) | (refine wpList_store_row rfl 24 _ _ rfl w.heap.size _ rfl rfl 24 _ F0 feInfo rfl (feC_one _) ?_))
  exact bodyPost_ret (results_cell_row Try.results53 _ _ w.heap.size 24 (feC (D1)) (0, 0) _ rfl (Blk.setRow F0 _) Try.underlying24 rfl feInfo) rfl ⟨rfl, C0.setRowNew (Nat.le_refl _) _⟩

theorem pwD : pw 121666 57896044618658097711785492504343953926634992332820282019728792003956564819947 = 37095705934669439343138083508754565189542113879843219016388785533085940283556 := (pw_pm 121666 57896044618658097711785492504343953926634992332820282019728792003956564819947 256 (by decide +kernel)).trans (by decide +kernel)
theorem mulD : (-121665 % P) * 37095705934669439343138083508754565189542113879843219016388785533085940283556 % P = D1 := by unfold D1 P; decide +kernel
set_option maxHeartbeats 4000000 in
set_option maxRecDepth 100000 in
theorem D_r (w : World) : Calls Try.prog 54 #[] w fun e w' => e = .returned (fe D1) ∧ Chg w w' [] := by
  have F2 := Blk.new w z32 24
  have C0 := (Chg.refl w []).alloc (.cells z32 24)
  have h5 : R256 ((121665 : Nat) : Int) := by unfold R256; decide
  have h6 : R256 ((121666 : Nat) : Int) := by unfold R256; decide
  have h7 : R256 (37095705934669439343138083508754565189542113879843219016388785533085940283556 : Int) := by unfold R256; decide
  obtain ⟨m, hm⟩ : ∃ m : Int, m = -121665 % P := ⟨_, rfl⟩
  have rm : R256 m := by rw [hm]; exact r256_mod _
  obtain ⟨v, hv⟩ : ∃ v : Int, v = 37095705934669439343138083508754565189542113879843219016388785533085940283556 := ⟨_, rfl⟩
  rw [← hv] at h7
  have hmv : Hid (m * v % P = D1) := by
    show m * v % P = D1
    rw [hm, hv]
    exact mulD
  have hn : Hid (-((121665 : Nat) : Int) % P = m) := hm.symm
  have hi : Hid (pw ((121666 : Nat) : Int) 57896044618658097711785492504343953926634992332820282019728792003956564819947 = v) := pwD.trans hv.symm
  clear hm hv
  go_enter Try.func54, Try.ntmps54
  go_wp2_with fail
  refine (FromInt_r 121665 (by decide) _).mono ?_
  rintro e v1 ⟨rfl, k⟩
  replace F2 := F2.chg k (by simp)
  replace C0 := C0.trans1 k
  clear k
  go_wp2_with fail
  refine (Neg_r ((121665 : Nat) : Int) h5 _).mono ?_
  rintro e v2 ⟨rfl, k⟩
  rw [hn.out]
  replace F2 := F2.chg k (by simp)
  replace C0 := C0.trans1 k
  clear k
  go_wp2_with fail
  refine (FromInt_r 121666 (by decide) _).mono ?_
  rintro e v3 ⟨rfl, k⟩
  replace F2 := F2.chg k (by simp)
  replace C0 := C0.trans1 k
  clear k
  go_wp2_with fail
  refine (Invert_r ((121666 : Nat) : Int) h6 _).mono ?_
  rintro e v4 ⟨rfl, k⟩
  rw [hi.out]
  replace F2 := F2.chg k (by simp)
  replace C0 := C0.trans1 k
  clear k
  go_wp2_with fail
  refine (Mul_r m v rm h7 _).mono ?_
  rintro e v5 ⟨rfl, k⟩
  rw [hmv.out]
  replace F2 := F2.chg k (by simp)
  replace C0 := C0.trans1 k
  clear k
  go_wp2_with (refine wpList_store_row rfl 24 _ _ rfl w.heap.size _ rfl rfl 24 _ F2 feInfo rfl (feC_one _) ?_)
  exact bodyPost_ret (results_cell_row Try.results54 _ _ w.heap.size 24 (feC (D1)) (0, 0) _ rfl (Blk.setRow F2 _) Try.underlying24 rfl feInfo) rfl ⟨rfl, C0.setRowNew (Nat.le_refl _) _⟩

end Go.Proofs.Ytialljmkkichiaa
