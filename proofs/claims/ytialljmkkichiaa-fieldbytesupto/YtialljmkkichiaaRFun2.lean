/- The document's answer: Invert, Legendre, IsNegative, Abs. -/
import Derived.Test.YtialljmkkichiaaRExp
set_option linter.unusedVariables false
set_option linter.unusedSimpArgs false
set_option linter.unnecessarySimpa false
namespace Go.Proofs.Ytialljmkkichiaa
open Go.RowKit N

theorem rpw (a : Int) (ha : 0 ≤ a) (k : Nat) : ((pwP (rd a) k : Nat) : Int) = pw a k := by
  unfold pwP
  rw [Int.natCast_emod, Int.natCast_pow, rd_int a ha, PM_eq]
  have h := pw_pw a 1 k k (by omega)
  rw [pw_one] at h
  exact h
theorem nb_exp (n : Nat) (h : n < 115792089237316195423570985008687907853269984665640564039457584007913129639936) : nb (bf n) 0 32 = n := by
  rw [nb_bf, Nat.pow_zero, Nat.div_one]
  exact Nat.mod_eq_of_lt (by omega)
theorem ex_lt (less h : Nat) : exn less / 2 ^ h < 115792089237316195423570985008687907853269984665640564039457584007913129639936 := Nat.lt_of_le_of_lt (Nat.div_le_self _ _) (exn_lt less)
/-- power of an exponent. -/
theorem power_e (x : Nat) (hx : x < 115792089237316195423570985008687907853269984665640564039457584007913129639936) (g n : Nat) (hn : n < 115792089237316195423570985008687907853269984665640564039457584007913129639936) (w : World) (hb : Blk w g (bC 32 (bf n)) 5) :
    Calls Try.prog 93 #[.agg (dC x), .slice (some ⟨g, 0, none⟩) 32 32] w fun e w' => e = .returned (.agg (dC (pwP x n))) ∧ Chg w w' [] := by
  have h := power_r x hx g 0 32 32 (bf n) (by decide) w (Bs.ofBC hb (fun j _ => bf_lt n j))
  rw [nb_exp n hn] at h
  exact h

set_option maxHeartbeats 4000000 in
set_option maxRecDepth 100000 in
theorem Invert_r (a : Int) (ra : R256 a) (w : World) : Calls Try.prog 38 #[fe a] w fun e w' => e = .returned (fe (pw a 57896044618658097711785492504343953926634992332820282019728792003956564819947)) ∧ Chg w w' [] := by
  have F0 : Blk ((w.alloc (.cells (feC a) 24)).alloc (.cells z32 24)) w.heap.size (feC a) 24 := (Blk.new w (feC a) 24).alloc _
  have F2 : Blk ((w.alloc (.cells (feC a) 24)).alloc (.cells z32 24)) (w.heap.size + 1) z32 24 := by have h := Blk.new (w.alloc (.cells (feC a) 24)) z32 24; simpa using h
  have C0 := ((Chg.refl w []).alloc (.cells (feC a) 24)).alloc (.cells z32 24)
  obtain ⟨p, hp⟩ : ∃ p, p = pwP (rd a) (exn 2 / 2 ^ 0) := ⟨_, rfl⟩
  have hpi : pw a 57896044618658097711785492504343953926634992332820282019728792003956564819947 = ((p : Nat) : Int) := by
    rw [hp, rpw a ra.1]
    congr 1
  rw [hpi]
  go_enter Try.func38, Try.ntmps38
  go_wp2_with (refine wpList_load_row rfl 24 _ rfl w.heap.size rfl 24 _ (0, 0) _ F0 Try.underlying24 rfl feInfo ?_)
  refine (Value_r a ra _).mono ?_
  rintro e v1 ⟨rfl, k⟩
  replace F2 := F2.chg k (by simp)
  replace C0 := C0.trans1 k
  clear k F0
  go_wp2_with fail
  refine (exponent_r 2 0 (by decide) (by decide) _).mono ?_
  rintro e v2 ⟨g, rfl, hg, bg, k⟩
  replace F2 := F2.chg k (by simp)
  replace C0 := C0.trans1 k
  clear k
  go_wp2_with fail
  refine (power_e (rd a) (rd256 a) g _ (ex_lt 2 0) _ bg).mono ?_
  rintro e v3 ⟨rfl, k⟩
  rw [← hp]
  replace F2 := F2.chg k (by simp)
  replace C0 := C0.trans1 k
  clear k hp hpi bg
  go_wp2_with fail
  refine (Back_r p _).mono ?_
  rintro e v4 ⟨rfl, k⟩
  replace F2 := F2.chg k (by simp)
  replace C0 := C0.trans1 k
  clear k
  go_wp2_with (refine wpList_store_row rfl 24 _ _ rfl (w.heap.size + 1) _ rfl rfl 24 _ F2 feInfo rfl (feC_one _) ?_)
  exact bodyPost_ret (results_cell_row Try.results38 _ _ (w.heap.size + 1) 24 (feC ((p : Nat) : Int)) (0, 0) _ rfl (Blk.setRow F2 _) Try.underlying24 rfl feInfo) rfl ⟨rfl, C0.setRowNew (by omega) _⟩

theorem dg0 (n : Nat) : dg n 0 = n % 65536 := by unfold dg; rw [Nat.pow_zero, Nat.div_one]
@[go_sem] theorem ix_num (n : Nat) (w : World) : (Instr.index 84 (.agg (dC n)) (.int .i64 0)).run Try.prog w = .ok (.int .u64 ((dg n 0 : Nat) : Int)) w := by kernel_rfl

set_option maxHeartbeats 4000000 in
set_option maxRecDepth 100000 in
theorem IsNegative_r (a : Int) (ra : R256 a) (w : World) : Calls Try.prog 44 #[fe a] w fun e w' => e = .returned (.bool (a % P % 2 == 1)) ∧ Chg w w' [] := by
  have F0 := Blk.new w (feC a) 24
  have C0 := (Chg.refl w []).alloc (.cells (feC a) 24)
  obtain ⟨d, hd⟩ : ∃ d, d = dg (rd a) 0 := ⟨_, rfl⟩
  obtain ⟨t, ht⟩ : ∃ t, t = (a % P % 2 == 1) := ⟨_, rfl⟩
  have hdt : (((d : Nat) : Int) % 2 == 1) = t := by
    rw [ht, ← rd_int a ra.1, hd, dg0]
    congr 1
    omega
  rw [← ht]
  go_enter Try.func44, Try.ntmps44
  go_wp2_with (refine wpList_load_row rfl 24 _ rfl w.heap.size rfl 24 _ (0, 0) _ F0 Try.underlying24 rfl feInfo ?_)
  refine (Value_r a ra _).mono ?_
  rintro e v1 ⟨rfl, k⟩
  replace C0 := C0.trans1 k
  have hix := ix_num (rd a)
  rw [← hd] at hix
  clear k F0 ht hd
  go_wp2
  go_ret
  exact ⟨rfl, C0⟩

set_option maxHeartbeats 4000000 in
set_option maxRecDepth 100000 in
theorem Abs_r (a : Int) (ra : R256 a) (w : World) : Calls Try.prog 46 #[fe a] w fun e w' => e = .returned (fe (ab a)) ∧ Chg w w' [] := by
  have F0 : Blk ((w.alloc (.cells (feC a) 24)).alloc (.cells z32 24)) w.heap.size (feC a) 24 := (Blk.new w (feC a) 24).alloc _
  have F2 : Blk ((w.alloc (.cells (feC a) 24)).alloc (.cells z32 24)) (w.heap.size + 1) z32 24 := by have h := Blk.new (w.alloc (.cells (feC a) 24)) z32 24; simpa using h
  have C0 := ((Chg.refl w []).alloc (.cells (feC a) 24)).alloc (.cells z32 24)
  obtain ⟨v, hv⟩ : ∃ v, v = ab a := ⟨_, rfl⟩
  rw [← hv]
  obtain ⟨t, ht⟩ : ∃ t, t = (a % P % 2 == 1) := ⟨_, rfl⟩
  have hvt : v = if t then -a % P else a % P := by
    rw [hv]
    unfold ab
    rw [← ht]
    cases t
    · rfl
    · show -a % P % P = -a % P
      exact Int.emod_emod_of_dvd _ (Int.dvd_refl P)
  go_enter Try.func46, Try.ntmps46
  go_wp2_with (refine wpList_load_row rfl 24 _ rfl w.heap.size rfl 24 _ (0, 0) _ F0 Try.underlying24 rfl feInfo ?_)
  refine (IsNegative_r a ra _).mono ?_
  rintro e v1 ⟨rfl, k⟩
  rw [← ht]
  replace F0 := F0.chg k (by simp)
  replace F2 := F2.chg k (by simp)
  replace C0 := C0.trans1 k
  clear k ht hv
  cases t with
  | true =>
    have hv : v = -a % P := hvt
    clear hvt
    go_wp2_with (refine wpList_load_row rfl 24 _ rfl w.heap.size rfl 24 _ (0, 0) _ F0 Try.underlying24 rfl feInfo ?_)
    refine (Neg_r a ra _).mono ?_
    rintro e v2 ⟨rfl, k⟩
    rw [← hv]
    replace F2 := F2.chg k (by simp)
    replace C0 := C0.trans1 k
    clear k F0 hv
    go_wp2_with (refine wpList_store_row rfl 24 _ _ rfl (w.heap.size + 1) _ rfl rfl 24 _ F2 feInfo rfl (feC_one _) ?_)
    exact bodyPost_ret (results_cell_row Try.results46 _ _ (w.heap.size + 1) 24 (feC v) (0, 0) _ rfl (Blk.setRow F2 _) Try.underlying24 rfl feInfo) rfl ⟨rfl, C0.setRowNew (by omega) _⟩
  | false =>
    have hv : v = a % P := hvt
    clear hvt
    go_wp2_with (refine wpList_load_row rfl 24 _ rfl w.heap.size rfl 24 _ (0, 0) _ F0 Try.underlying24 rfl feInfo ?_)
    refine (Value_r a ra _).mono ?_
    rintro e v2 ⟨rfl, k⟩
    replace F2 := F2.chg k (by simp)
    replace C0 := C0.trans1 k
    clear k F0
    go_wp2_with fail
    refine (Back_r (rd a) _).mono ?_
    rintro e v3 ⟨rfl, k⟩
    rw [rd_int a ra.1, ← hv]
    replace F2 := F2.chg k (by simp)
    replace C0 := C0.trans1 k
    clear k hv
    go_wp2_with (refine wpList_store_row rfl 24 _ _ rfl (w.heap.size + 1) _ rfl rfl 24 _ F2 feInfo rfl (feC_one _) ?_)
    exact bodyPost_ret (results_cell_row Try.results46 _ _ (w.heap.size + 1) 24 (feC v) (0, 0) _ rfl (Blk.setRow F2 _) Try.underlying24 rfl feInfo) rfl ⟨rfl, C0.setRowNew (by omega) _⟩

end Go.Proofs.Ytialljmkkichiaa
