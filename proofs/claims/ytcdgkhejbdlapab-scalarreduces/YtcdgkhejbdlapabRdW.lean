/- ScalarReduces: the walk. -/
import Derived.Test.YtcdgkhejbdlapabRdN
import Derived.Test.YtcdgkhejbdlapabSfL
import Derived.Test.YtcdgkhejbdlapabWorks
import Derived.Deep.DeepCutAuto
set_option linter.unusedVariables false
set_option linter.unusedSimpArgs false
set_option linter.unnecessarySimpa false
namespace Go.Proofs.Ytcdgkhejbdlapab
open Go.RowKit N

theorem u8Info' : (Try.prog.info? 5).map (·.size) = some 1 := by kernel_rfl
theorem fe_r (x : Int) : R256 (x % L) := r256_mod _
theorem ml_r' (a b : Int) : R256 (ml a b) := r256_mod _
theorem red_join (x y k : Nat) : ((x + 256 ^ k * y : Nat) : Int) % L = ad ((x : Int) % L) (ml ((y : Int) % L) (((256 ^ k : Nat) : Int) % L)) := by
  have h : ((y : Int) % L * (((256 ^ k : Nat) : Int) % L)) % L = ((y : Int) * ((256 ^ k : Nat) : Int)) % L := by rw [m_mul_l, m_mul_r]
  unfold ad ml
  rw [h, m_add_l, m_add_r, Int.natCast_add, Int.natCast_mul, Int.mul_comm (((256 ^ k : Nat)) : Int)]
theorem nb_11 : nb (fun _ => 1) 0 1 = 1 := rfl
theorem red_sum (x y : Nat) : ((x + y : Nat) : Int) % L = ad ((x : Int) % L) ((y : Int) % L) := by
  unfold ad
  rw [m_add_l, m_add_r, Int.natCast_add]
theorem red_small (c : Nat) (hc : c < 18446744073709551616) : (c : Int) % L = (c : Int) := by
  have : (c : Int) < L := by unfold L; omega
  exact Int.emod_eq_of_lt (by omega) this
def c8 (c i : Nat) : Nat := c / 256 ^ i % 256
theorem c8_nb (c : Nat) (hc : c < 18446744073709551616) : nb (c8 c) 0 8 = c := by
  have h := nb_digits c 8 0
  rw [Nat.pow_zero, Nat.div_one, Nat.mod_eq_of_lt (by omega)] at h
  exact h
theorem c8_lt (c i : Nat) : c8 c i < 256 := Nat.mod_lt _ (by decide)
theorem c8_yC (c : Nat) : yC 8 (c8 c) = #[.int .u8 (c8 c 0 : Nat), .int .u8 (c8 c 1 : Nat), .int .u8 (c8 c 2 : Nat), .int .u8 (c8 c 3 : Nat), .int .u8 (c8 c 4 : Nat), .int .u8 (c8 c 5 : Nat), .int .u8 (c8 c 6 : Nat), .int .u8 (c8 c 7 : Nat)] := by unfold yC; rfl
theorem c8_w0 (c d : Nat) (h : c8 c 0 = d) : IntKind.u8.wrap (c : Int) = (d : Int) := by rw [IntKind.wrap_u8', ← h]; unfold c8; omega
theorem c8_wi (c i d : Nat) (P : Int) (hP : P = ((256 ^ i : Nat) : Int)) (h : c8 c i = d) : IntKind.u8.wrap ((c : Int) / P) = (d : Int) := by rw [IntKind.wrap_u8', ← h, hP]; unfold c8; rw [Int.natCast_emod, Int.natCast_ediv]; rfl
theorem yC_fe (f : Nat → Nat) (h : ∀ i, i < 32 → f i < 256) : yC 32 f = feC ((nb f 0 32 : Nat) : Int) := by
  apply Array.ext_getElem?
  intro i
  by_cases hi : i < 32
  · rw [yC_get _ _ _ hi, feC_get _ i hi, by8_nat, nb_get f 32 0 i (fun j _ hj => h j (by omega)), if_pos hi, Nat.zero_add]
  · rw [Array.getElem?_eq_none (by rw [yC_size]; omega), Array.getElem?_eq_none (by rw [feC_size]; omega)]
theorem z32_yC : z32 = #[] ++ (yC 32 (fun _ => 0) ++ #[]) := by kernel_rfl
theorem dec_canon (x : Int) : eqf (x % L) (x % L % L) = true := by rw [Int.emod_emod_of_dvd _ (Int.dvd_refl L)]; exact eqf_self _
theorem lay_all (t f : Nat → Nat) (n i : Nat) (h : i < n) : lay t 0 n f i = f i := by unfold lay; rw [if_pos ⟨by omega, by omega⟩, Nat.sub_zero]
/-- What Decode answers of 32 bytes. -/
theorem dec_32 (f : Nat → Nat) (A X E : Int) (hA : ((nb f 0 32 : Nat) : Int) = A) (hX : dX 32 f = X) (hE : dE 32 f = E) : (eqf A (A % L) = true ∧ X = A ∧ E = 0) ∨ (eqf A (A % L) = false ∧ X = 0 ∧ E = 21) := by
  unfold dX at hX
  unfold dE at hE
  rw [if_pos rfl, hA] at hX hE
  cases h : eqf A (A % L)
  · rw [h] at hX hE; exact Or.inr ⟨rfl, hX.symm, hE.symm⟩
  · rw [h] at hX hE; exact Or.inl ⟨rfl, hX.symm, hE.symm⟩
theorem eqf_val (A B : Int) (ra : R256 A) (rb : R256 B) (h : eqf A B = true) : A = B := by rw [eqf_eq ra rb] at h; exact of_decide_eq_true h
attribute [local irreducible] yC cat nb ml ad sm zx dX dE c8 L
set_option maxHeartbeats 16000000 in
set_option maxRecDepth 100000 in
theorem reduces_walk (vb vc : Value) (n0 m : Nat) (f1 f2 : Nat → Nat) (hn0 : n0 ≤ 140737488355328) (hm : m ≤ 140737488351232) (c : Nat) (hc : c < 18446744073709551616) (w : World) (hE : Sl w vb n0 f1) (hF : Sl w vc m f2) :
    Calls Try.prog 5 #[vb, vc, .int .u64 (c : Int)] w fun e w' => e = .returned (.bool true) ∧ Chg w w' [] := by
  have hge := feGuard
  obtain ⟨pe, ce, rfl, _, _⟩ := sl_form hE
  obtain ⟨pf, cf, rfl, _, _⟩ := sl_form hF
  go_enter Try.func5, Try.ntmps5
  go_upto_if 14 with fail
  go_cut [0] (fun t0 wc => ∃ k, k ≤ 300 ∧ Chg w wc [] ∧ Sl wc t0 k f1)
  case first =>
    by_cases h : 300 < n0
    · have hI : (300 : Int) < (n0 : Int) := by omega
      obtain ⟨g, o, cap, e0, h1, h2, hs⟩ := hE.take 300 h
      obtain ⟨rfl, rfl⟩ : _ = _ ∧ _ = _ := by simpa using e0
      go_wp2_with fail
      go_meet
      case rel => exact ⟨300, by decide, Chg.refl _ _, hs⟩
    · have hI : ¬ (300 : Int) < (n0 : Int) := by omega
      go_wp2_with fail
      go_meet
      case rel => exact ⟨n0, by omega, Chg.refl _ _, hE⟩
  case rest =>
    obtain ⟨k, hk, CC, hE1⟩ := hcut
    replace hF := hF.chg CC (Off.nil _)
    clear hE
    generalize wc = y1 at *
    generalize u0 = vb at *
    obtain ⟨pb, cb, rfl, fb, _⟩ := sl_form hE1
    have hE := hE1
    clear hE1
    obtain ⟨x, hx⟩ : ∃ x, nb f1 0 k = x := ⟨_, rfl⟩
    obtain ⟨y, hy⟩ : ∃ y, nb f2 0 m = y := ⟨_, rfl⟩
    obtain ⟨r, hr⟩ : ∃ r, (x : Int) % L = r := ⟨_, rfl⟩
    obtain ⟨s, hs⟩ : ∃ s, (y : Int) % L = s := ⟨_, rfl⟩
    obtain ⟨t, ht⟩ : ∃ t, ((256 ^ k : Nat) : Int) % L = t := ⟨_, rfl⟩
    obtain ⟨u, hu⟩ : ∃ u, ml s t = u := ⟨_, rfl⟩
    obtain ⟨q1, hq1⟩ : ∃ q, ad r u = q := ⟨_, rfl⟩
    obtain ⟨q2, hq2⟩ : ∃ q, ad r s = q := ⟨_, rfl⟩
    have rr : R256 r := by rw [← hr]; exact fe_r _
    have rs : R256 s := by rw [← hs]; exact fe_r _
    have rt : R256 t := by rw [← ht]; exact fe_r _
    have ru : R256 u := by rw [← hu]; exact ml_r' _ _
    have A1 : Hid (((nb (cat f1 k f2) 0 (k + m) : Nat) : Int) % L = q1) := by show ((nb (cat f1 k f2) 0 (k + m) : Nat) : Int) % L = q1; rw [cat_nb, hx, hy, red_join, hr, hs, ht, hu, hq1]
    have A2 : Hid (((nb f1 0 k : Nat) : Int) % L = r) := by show ((nb f1 0 k : Nat) : Int) % L = r; rw [hx, hr]
    have A3 : Hid (((nb f2 0 m : Nat) : Int) % L = s) := by show ((nb f2 0 m : Nat) : Int) % L = s; rw [hy, hs]
    have A4 : Hid (((nb (cat (fun _ => 0) k fun _ => 1) 0 (k + 1) : Nat) : Int) % L = t) := by show ((nb (cat (fun _ => 0) k fun _ => 1) 0 (k + 1) : Nat) : Int) % L = t; rw [cat_nb, nb_zeros, Nat.zero_add, nb_11, Nat.mul_one, ht]
    have A5 : Hid (ml s t = u) := hu
    have A6 : Hid (ad r u = q1) := hq1
    have A7 : Hid (ad r s = q2) := hq2
    obtain ⟨j, hj⟩ : ∃ j, m % 9 = j := ⟨_, rfl⟩
    have hj9 : j ≤ 1000 := by omega
    have ej : (m : Int).tmod 9 = (j : Int) := by rw [Int.tmod_eq_emod_of_nonneg (by omega)]; omega
    have A8 : Hid (((nb (cat f1 k fun _ => 0) 0 (k + j) : Nat) : Int) % L = r) := by show ((nb (cat f1 k fun _ => 0) 0 (k + j) : Nat) : Int) % L = r; rw [cat_nb, nb_zeros, Nat.mul_zero, Nat.add_zero, hx, hr]
    have A9 : Hid (((nb (sm (zx f1 k) (zx f2 m) (max k m)) 0 (max k m + 1) : Nat) : Int) % L = q2) := by show ((nb (sm (zx f1 k) (zx f2 m) (max k m)) 0 (max k m + 1) : Nat) : Int) % L = q2; rw [sum_val, hx, hy, red_sum, hr, hs, hq2]
    have B1 : Hid (eqf r (r % L) = true) := by show eqf r (r % L) = true; rw [← hr]; exact dec_canon _
    have z1 : eqf q1 q1 = true := eqf_self _
    have z2 : eqf q2 q2 = true := eqf_self _
    have z3 : eqf r r = true := eqf_self _
    have z4 : eqf (c : Int) (c : Int) = true := eqf_self _
    have z5 : eqf 0 0 = true := eqf_self _
    have HR : Hid ((x : Int) % L = r) := hr
    have HX : Hid (nb f1 0 k = x) := hx
    have k1 : k ≤ 1000 := by omega
    have k2 : k ≤ 140737488355328 := by omega
    have k3 : k + m ≤ 211106232532992 := by omega
    have k4 : k + m ≤ 140737488355328 := by omega
    have k5 : k + 1 ≤ 140737488355328 := by omega
    have k6 : k + j ≤ 211106232532992 := by omega
    have k7 : k + j ≤ 140737488355328 := by omega
    have k8 : m ≤ 140737488355328 := by omega
    have k9 : max k m + 1 ≤ 140737488355328 := by omega
    have k10 : k + 1 ≤ 211106232532992 := by omega
    have MK : ∀ W : World, (Instr.makeSlice 34 (.int .i64 (k : Int)) (.int .i64 (k : Int))).run Try.prog W = .ok (.slice (some ⟨W.heap.size, 0, none⟩) k k) (W.alloc (.cells (yC k fun _ => 0) 5)) := fun W => make_yi k k1 W
    have MJ : ∀ W : World, (Instr.makeSlice 34 (.int .i64 (j : Int)) (.int .i64 (j : Int))).run Try.prog W = .ok (.slice (some ⟨W.heap.size, 0, none⟩) j j) (W.alloc (.cells (yC j fun _ => 0) 5)) := fun W => make_yi j hj9 W
    clear hx hy hr hs ht hu hq1 hq2 hj hk hn0 hm
    go_wp2_with fail
    have KW : Chg y1 ((y1.alloc (.cells (yC k fun _ => 0) 5)).alloc (.cells #[.int .u8 1] 5)) [] := ((Chg.refl y1 []).alloc _).alloc _
    have S1 : Sl ((y1.alloc (.cells (yC k fun _ => 0) 5)).alloc (.cells #[.int .u8 1] 5)) (.slice (some ⟨y1.heap.size, 0, none⟩) k k) k (fun _ => 0) := (sl_yC y1 k k1 (fun _ => 0) (fun _ => by decide)).chg ((Chg.refl _ []).alloc _) (Off.nil _)
    have S2 : Sl ((y1.alloc (.cells (yC k fun _ => 0) 5)).alloc (.cells #[.int .u8 1] 5)) (.slice (some ⟨y1.heap.size + 1, 0, none⟩) 1 1) 1 (fun _ => 1) := by have h := one_sl (y1.alloc (.cells (yC k fun _ => 0) 5)) 1 (by decide); simpa using h
    replace hE := hE.chg KW (Off.nil _)
    replace hF := hF.chg KW (Off.nil _)
    replace CC := CC.trans1 KW
    clear KW
    refine (joined_s _ _ k 1 (fun _ => 0) (fun _ => 1) k10 _ S1 S2).mono ?_
    rintro e x1 ⟨vs, rfl, Os, q⟩
    clear S1 S2
    replace hE := hE.chg q (Off.nil _)
    replace hF := hF.chg q (Off.nil _)
    replace CC := CC.trans1 q
    clear q
    go_wp2_with fail
    refine (joined_s _ _ k m f1 f2 k3 _ hE hF).mono ?_
    rintro e x2 ⟨vj, rfl, Oj, q⟩
    replace hE := hE.chg q (Off.nil _)
    replace hF := hF.chg q (Off.nil _)
    replace Os := Os.chg q (fun _ _ h => by simp at h)
    replace CC := CC.trans1 q
    clear q
    go_wp2_with fail
    refine (Reduce_is vj (k + m) (cat f1 k f2) q1 k4 A1.out _ Oj.sl).mono ?_
    rintro e x3 ⟨rfl, q⟩
    replace hE := hE.chg q (Off.nil _)
    replace hF := hF.chg q (Off.nil _)
    replace Os := Os.chg q (fun _ _ h => by simp at h)
    replace Oj := Oj.chg q (fun _ _ h => by simp at h)
    replace CC := CC.trans1 q
    clear q
    go_wp2_with fail
    refine (Reduce_is _ k f1 r k2 A2.out _ hE).mono ?_
    rintro e x4 ⟨rfl, q⟩
    replace hE := hE.chg q (Off.nil _)
    replace hF := hF.chg q (Off.nil _)
    replace Os := Os.chg q (fun _ _ h => by simp at h)
    replace CC := CC.trans1 q
    clear q
    go_wp2_with fail
    refine (Reduce_is _ m f2 s k8 A3.out _ hF).mono ?_
    rintro e x5 ⟨rfl, q⟩
    replace hE := hE.chg q (Off.nil _)
    replace hF := hF.chg q (Off.nil _)
    replace Os := Os.chg q (fun _ _ h => by simp at h)
    replace CC := CC.trans1 q
    clear q
    go_wp2_with fail
    refine (Reduce_is vs (k + 1) (cat (fun _ => 0) k fun _ => 1) t k5 A4.out _ Os.sl).mono ?_
    rintro e x6 ⟨rfl, q⟩
    replace hE := hE.chg q (Off.nil _)
    replace hF := hF.chg q (Off.nil _)
    replace Os := Os.chg q (fun _ _ h => by simp at h)
    replace CC := CC.trans1 q
    clear q
    go_wp2_with fail
    refine (Mul_is s t u rs rt A5.out _).mono ?_
    rintro e x7 ⟨rfl, q⟩
    replace hE := hE.chg q (Off.nil _)
    replace hF := hF.chg q (Off.nil _)
    replace CC := CC.trans1 q
    clear q
    go_wp2_with fail
    refine (Add_is r u q1 rr ru A6.out _).mono ?_
    rintro e x8 ⟨rfl, q⟩
    replace hE := hE.chg q (Off.nil _)
    replace hF := hF.chg q (Off.nil _)
    replace CC := CC.trans1 q
    clear q
    go_wp2_with fail
    have KW : Chg x8 (x8.alloc (.cells (yC j fun _ => 0) 5)) [] := (Chg.refl x8 []).alloc _
    have S1 : Sl (x8.alloc (.cells (yC j fun _ => 0) 5)) (.slice (some ⟨x8.heap.size, 0, none⟩) j j) j (fun _ => 0) := sl_yC x8 j hj9 (fun _ => 0) (fun _ => by decide)
    replace hE := hE.chg KW (Off.nil _)
    replace hF := hF.chg KW (Off.nil _)
    replace CC := CC.trans1 KW
    clear KW
    refine (joined_s _ _ k j f1 (fun _ => 0) k6 _ hE S1).mono ?_
    rintro e x9 ⟨vz, rfl, Oz, q⟩
    clear S1
    replace hE := hE.chg q (Off.nil _)
    replace hF := hF.chg q (Off.nil _)
    replace CC := CC.trans1 q
    clear q
    go_wp2_with fail
    refine (Reduce_is vz (k + j) (cat f1 k fun _ => 0) r k7 A8.out _ Oz.sl).mono ?_
    rintro e x10 ⟨rfl, q⟩
    replace hE := hE.chg q (Off.nil _)
    replace hF := hF.chg q (Off.nil _)
    replace Oz := Oz.chg q (fun _ _ h => by simp at h)
    replace CC := CC.trans1 q
    clear q
    go_wp2_with fail
    refine (Reduce_is _ k f1 r k2 A2.out _ hE).mono ?_
    rintro e x11 ⟨rfl, q⟩
    replace hE := hE.chg q (Off.nil _)
    replace hF := hF.chg q (Off.nil _)
    replace CC := CC.trans1 q
    clear q
    go_wp2_with fail
    refine (sum_s _ _ k m f1 f2 k2 k8 _ hE hF).mono ?_
    rintro e x12 ⟨vt, rfl, Ot, q⟩
    replace hE := hE.chg q (Off.nil _)
    replace hF := hF.chg q (Off.nil _)
    replace CC := CC.trans1 q
    clear q
    go_wp2_with fail
    refine (Reduce_is vt (max k m + 1) _ q2 k9 A9.out _ Ot.sl).mono ?_
    rintro e x13 ⟨rfl, q⟩
    replace hE := hE.chg q (Off.nil _)
    replace hF := hF.chg q (Off.nil _)
    replace Ot := Ot.chg q (fun _ _ h => by simp at h)
    replace CC := CC.trans1 q
    clear q
    go_wp2_with fail
    refine (Reduce_is _ k f1 r k2 A2.out _ hE).mono ?_
    rintro e x14 ⟨rfl, q⟩
    replace hE := hE.chg q (Off.nil _)
    replace hF := hF.chg q (Off.nil _)
    replace CC := CC.trans1 q
    clear q
    go_wp2_with fail
    refine (Reduce_is _ m f2 s k8 A3.out _ hF).mono ?_
    rintro e x15 ⟨rfl, q⟩
    replace hE := hE.chg q (Off.nil _)
    replace hF := hF.chg q (Off.nil _)
    replace CC := CC.trans1 q
    clear q
    go_wp2_with fail
    refine (Add_is r s q2 rr rs A7.out _).mono ?_
    rintro e x16 ⟨rfl, q⟩
    replace hE := hE.chg q (Off.nil _)
    replace hF := hF.chg q (Off.nil _)
    replace CC := CC.trans1 q
    clear q
    go_wp2_with fail
    refine (Reduce_is _ k f1 r k2 A2.out _ hE).mono ?_
    rintro e x17 ⟨rfl, q⟩
    replace hE := hE.chg q (Off.nil _)
    replace hF := hF.chg q (Off.nil _)
    replace CC := CC.trans1 q
    clear q
    have FR := Blk.new x17 z32 23
    have q : Chg x17 ((x17.alloc (.cells z32 23)).setRow x17.heap.size (feC r)) [] := ((Chg.refl x17 []).alloc (.cells z32 23)).setRowNew (Nat.le_refl _) _
    replace hE := hE.chg q (Off.nil _)
    replace hF := hF.chg q (Off.nil _)
    replace CC := CC.trans1 q
    clear q
    go_wp2_with (refine wpList_store_row rfl 23 _ _ rfl x17.heap.size (feC r) rfl rfl 23 _ FR feInfo rfl (feC_one _) ?_)
    replace FR := FR.setRow (feC r)
    try (change Calls Try.prog _ _ ((x17.alloc (.cells z32 23)).setRow x17.heap.size (feC r)) _)
    generalize ((x17.alloc (.cells z32 23)).setRow x17.heap.size (feC r)) = y6 at *
    generalize x17.heap.size = g8 at *
    refine (Decode_arr g8 r rr true B1.out 23 _ FR).mono ?_
    rintro e x18 ⟨rfl, q⟩
    simp only [if_true]
    replace hE := hE.chg q (Off.nil _)
    replace hF := hF.chg q (Off.nil _)
    replace FR := FR.chg q (by simp)
    replace CC := CC.trans1 q
    clear q
    have FD := Blk.new x18 z32 23
    have d9 : ¬ g8 = x18.heap.size := Nat.ne_of_lt FR.lt
    have h9 : w.heap.size ≤ x18.heap.size := CC.size
    have OE := hE.new [x18.heap.size] (by simp)
    have OF := hF.new [x18.heap.size] (by simp)
    have q : Chg x18 ((x18.alloc (.cells z32 23)).setRow x18.heap.size (feC r)) [] := ((Chg.refl x18 []).alloc (.cells z32 23)).setRowNew (Nat.le_refl _) _
    replace hE := hE.chg q (Off.nil _)
    replace hF := hF.chg q (Off.nil _)
    replace FR := FR.chg q (by simp)
    replace CC := CC.trans1 q
    clear q
    go_upto_region 8 with (refine wpList_store_row rfl 23 _ _ rfl x18.heap.size (feC r) rfl rfl 23 _ FD feInfo rfl (feC_one _) ?_)
    replace FD := FD.setRow (feC r)
    try (change Code.wp _ _ _ _ ((x18.alloc (.cells z32 23)).setRow x18.heap.size (feC r)))
    generalize ((x18.alloc (.cells z32 23)).setRow x18.heap.size (feC r)) = y7 at *
    generalize x18.heap.size = g9 at *
    go_wp2_with (first | (refine gl_load (by rfl) 23 _ rfl g9 rfl 23 _ _ FD Try.underlying23 rfl feInfo ?_) | (refine gl_load (by rfl) 23 _ rfl g8 rfl 23 _ _ FR Try.underlying23 rfl feInfo ?_))
    refine (Canonical_is r rr true B1.out _).mono ?_
    rintro e x19 ⟨rfl, q⟩
    replace hE := hE.chg q (Off.nil _)
    replace hF := hF.chg q (Off.nil _)
    replace FR := FR.chg q (by simp)
    replace FD := FD.chg q (by simp)
    replace CC := CC.trans1 q
    clear q
    go_wp2_with fail
    refine (FromInt_s (c : Int) ⟨by omega, by omega⟩ _).mono ?_
    rintro e x20 ⟨rfl, q⟩
    replace hE := hE.chg q (Off.nil _)
    replace hF := hF.chg q (Off.nil _)
    replace FR := FR.chg q (by simp)
    replace FD := FD.chg q (by simp)
    replace CC := CC.trans1 q
    clear q
    obtain ⟨b0, hb0⟩ : ∃ x, c8 c 0 = x := ⟨_, rfl⟩
    obtain ⟨b1, hb1⟩ : ∃ x, c8 c 1 = x := ⟨_, rfl⟩
    obtain ⟨b2, hb2⟩ : ∃ x, c8 c 2 = x := ⟨_, rfl⟩
    obtain ⟨b3, hb3⟩ : ∃ x, c8 c 3 = x := ⟨_, rfl⟩
    obtain ⟨b4, hb4⟩ : ∃ x, c8 c 4 = x := ⟨_, rfl⟩
    obtain ⟨b5, hb5⟩ : ∃ x, c8 c 5 = x := ⟨_, rfl⟩
    obtain ⟨b6, hb6⟩ : ∃ x, c8 c 6 = x := ⟨_, rfl⟩
    obtain ⟨b7, hb7⟩ : ∃ x, c8 c 7 = x := ⟨_, rfl⟩
    have w0 := c8_w0 c b0 hb0
    have w1 := c8_wi c 1 b1 256 rfl hb1
    have w2 := c8_wi c 2 b2 65536 rfl hb2
    have w3 := c8_wi c 3 b3 16777216 rfl hb3
    have w4 := c8_wi c 4 b4 4294967296 rfl hb4
    have w5 := c8_wi c 5 b5 1099511627776 rfl hb5
    have w6 := c8_wi c 6 b6 281474976710656 rfl hb6
    have w7 := c8_wi c 7 b7 72057594037927936 rfl hb7
    have HB8 : Hid (yC 8 (c8 c) = #[.int .u8 (b0 : Int), .int .u8 (b1 : Int), .int .u8 (b2 : Int), .int .u8 (b3 : Int), .int .u8 (b4 : Int), .int .u8 (b5 : Int), .int .u8 (b6 : Int), .int .u8 (b7 : Int)]) := by have h := c8_yC c; rw [hb0, hb1, hb2, hb3, hb4, hb5, hb6, hb7] at h; exact h
    clear hb0 hb1 hb2 hb3 hb4 hb5 hb6 hb7
    go_wp2_with fail
    have q : Chg x20 (x20.alloc (.cells #[.int .u8 (b0 : Int), .int .u8 (b1 : Int), .int .u8 (b2 : Int), .int .u8 (b3 : Int), .int .u8 (b4 : Int), .int .u8 (b5 : Int), .int .u8 (b6 : Int), .int .u8 (b7 : Int)] 5)) [] := (Chg.refl x20 []).alloc _
    have S8 : Sl (x20.alloc (.cells #[.int .u8 (b0 : Int), .int .u8 (b1 : Int), .int .u8 (b2 : Int), .int .u8 (b3 : Int), .int .u8 (b4 : Int), .int .u8 (b5 : Int), .int .u8 (b6 : Int), .int .u8 (b7 : Int)] 5)) (.slice (some ⟨x20.heap.size, 0, none⟩) 8 8) 8 (c8 c) := by have h := sl_yC x20 8 (by decide) (c8 c) (c8_lt c); rw [HB8.out] at h; exact h
    replace hE := hE.chg q (Off.nil _)
    replace hF := hF.chg q (Off.nil _)
    replace FR := FR.chg q (by simp)
    replace FD := FD.chg q (by simp)
    replace CC := CC.trans1 q
    clear q
    have B2 : Hid (((nb (c8 c) 0 8 : Nat) : Int) % L = (c : Int)) := by show ((nb (c8 c) 0 8 : Nat) : Int) % L = (c : Int); rw [c8_nb c hc]; exact red_small c hc
    refine (Reduce_is _ 8 (c8 c) (c : Int) (by decide) B2.out _ S8).mono ?_
    rintro e x21 ⟨rfl, q⟩
    clear S8
    replace hE := hE.chg q (Off.nil _)
    replace hF := hF.chg q (Off.nil _)
    replace FR := FR.chg q (by simp)
    replace FD := FD.chg q (by simp)
    replace CC := CC.trans1 q
    clear q
    go_wp2_with fail
    obtain ⟨X, hX⟩ : ∃ X, dX k f1 = X := ⟨_, rfl⟩
    obtain ⟨E, hEE⟩ : ∃ E, dE k f1 = E := ⟨_, rfl⟩
    have HDX : Hid (dX k f1 = X) := hX
    have HDE : Hid (dE k f1 = E) := hEE
    clear hX hEE
    refine (Decode_is _ k f1 X E HDX.out HDE.out _ hE).mono ?_
    rintro e x22 ⟨rfl, q⟩
    replace hE := hE.chg q (Off.nil _)
    replace hF := hF.chg q (Off.nil _)
    replace FR := FR.chg q (by simp)
    replace FD := FD.chg q (by simp)
    replace CC := CC.trans1 q
    clear q
    have q : Chg x22 (x22.setRow g9 (feC X)) [g9] := Chg.of (gb_setRow (gb_refl _ _) _)
    replace hE := hE.chg q OE
    replace hF := hF.chg q OF
    replace FR := FR.chg q (by simpa using d9)
    replace CC := CC.new q h9
    clear q OE OF
    go_upto_region 11 with (refine wpList_store_row rfl 23 _ _ rfl g9 (feC X) rfl rfl 23 _ FD feInfo rfl (feC_one _) ?_)
    replace FD := FD.setRow (feC X)
    try (change Code.wp _ _ _ _ (x22.setRow g9 (feC X)))
    generalize (x22.setRow g9 (feC X)) = y10 at *
    by_cases h32 : k = 32
    · subst h32
      have B3 : Hid (((nb f1 0 32 : Nat) : Int) = (x : Int)) := by show ((nb f1 0 32 : Nat) : Int) = (x : Int); rw [HX.out]
      have rx : R256 (x : Int) := by rw [← B3.out]; exact nb_r256 f1 fb
      obtain ⟨A, hA⟩ : ∃ A, (x : Int) = A := ⟨_, rfl⟩
      rw [hA] at rx
      have hcs := dec_32 f1 A X E (by rw [B3.out, hA]) HDX.out HDE.out
      have HRA : A % L = r := by rw [← hA]; exact HR.out
      rw [HRA] at hcs
      have HFE : Hid (yC 32 (lay (fun _ => 0) 0 32 f1) = feC A) := by show yC 32 (lay (fun _ => 0) 0 32 f1) = feC A; rw [yC_eq (fun i hi => lay_all _ f1 32 i hi), yC_fe f1 fb, B3.out, hA]
      obtain ⟨_, _, e0, _, hp⟩ := sl_form hE
      obtain ⟨rfl, rfl⟩ : pb = _ ∧ cb = _ := by simpa using e0
      obtain ⟨gs, os, rfl, hn1, hn2, BS⟩ := hp 0 (by decide)
      have e8 : ¬ g8 = y10.heap.size := Nat.ne_of_lt FR.lt
      have e9 : ¬ g9 = y10.heap.size := Nat.ne_of_lt FD.lt
      have h11 : w.heap.size ≤ y10.heap.size := CC.size
      have F11 := Blk.new y10 z32 23
      have H11 : Hid (Blk (y10.alloc (.cells z32 23)) y10.heap.size (#[] ++ (yC 32 (fun _ => 0) ++ #[])) 23) := by show Blk _ _ _ _; rw [← z32_yC]; exact F11
      have BS' : Bs (y10.alloc (.cells z32 23)) gs os 32 f1 := BS.alloc _
      have q : Chg y10 (y10.alloc (.cells z32 23)) [] := (Chg.refl y10 []).alloc _
      replace FR := FR.chg q (by simp)
      replace FD := FD.chg q (by simp)
      replace CC := CC.trans1 q
      clear q F11 e0 hp hA B3 HR HX fb
      go_wp2_with (refine copy_y rfl (.tmp 126) (.tmp 127) 34 34 rfl 5 Try.underlying34 u8Info' y10.heap.size 0 32 32 (some ⟨gs, os, none⟩) 32 cb rfl rfl #[] 32 (fun _ => 0) #[] 23 H11.out 0 32 f1 (fun _ => rfl) rfl (fun _ => ⟨gs, os, rfl, fun j hj => BS'.cell j hj⟩) (by decide) ?_; intro y11 B11 q)
      simp only [Array.append_empty, Array.empty_append] at B11
      rw [HFE.out] at B11
      replace FR := FR.chg q (by simpa using e8)
      replace FD := FD.chg q (by simpa using e9)
      replace CC := CC.new q h11
      clear q
      generalize y10.heap.size = g11 at *
      refine (works_true _).mono ?_
      rintro e y12 ⟨rfl, q⟩
      replace B11 := B11.chg q (by simp)
      replace FR := FR.chg q (by simp)
      replace FD := FD.chg q (by simp)
      replace CC := CC.trans1 q
      clear q
      rcases hcs with ⟨h1, rfl, rfl⟩ | ⟨h1, rfl, rfl⟩
      · go_wp2_with (first | (refine gl_load (by rfl) 23 _ rfl g11 rfl 23 _ _ B11 Try.underlying23 rfl feInfo ?_) | (refine gl_load (by rfl) 23 _ rfl g8 rfl 23 _ _ FR Try.underlying23 rfl feInfo ?_) | (refine gl_load (by rfl) 23 _ rfl g9 rfl 23 _ _ FD Try.underlying23 rfl feInfo ?_) | (refine gl_build (by rfl) 23 #[] rfl (feC 0) (by kernel_rfl) ?_))
        go_ret
        exact ⟨rfl, CC⟩
      · go_wp2_with (first | (refine gl_load (by rfl) 23 _ rfl g11 rfl 23 _ _ B11 Try.underlying23 rfl feInfo ?_) | (refine gl_load (by rfl) 23 _ rfl g8 rfl 23 _ _ FR Try.underlying23 rfl feInfo ?_) | (refine gl_load (by rfl) 23 _ rfl g9 rfl 23 _ _ FD Try.underlying23 rfl feInfo ?_) | (refine gl_build (by rfl) 23 #[] rfl (feC 0) (by kernel_rfl) ?_))
        go_ret
        exact ⟨rfl, CC⟩
    · have hI : ¬ (k : Int) = 32 := by omega
      obtain rfl : X = 0 := by rw [← HDX.out]; exact dX_len f1 h32
      obtain rfl : E = 3 := by rw [← HDE.out]; exact dE_len f1 h32
      go_wp2_with fail
      refine (works_true _).mono ?_
      rintro e y12 ⟨rfl, q⟩
      replace FD := FD.chg q (by simp)
      replace CC := CC.trans1 q
      go_wp2_with (first | (refine gl_load (by rfl) 23 _ rfl g9 rfl 23 _ _ FD Try.underlying23 rfl feInfo ?_) | (refine gl_build (by rfl) 23 #[] rfl (feC 0) (by kernel_rfl) ?_))
      go_ret
      exact ⟨rfl, CC⟩
end Go.Proofs.Ytcdgkhejbdlapab
