/- shamir.checkEnough, Recover. -/
import Derived.Test.YtledggdoehnlcaaGreatSh6
set_option linter.unusedVariables false
set_option linter.unusedSimpArgs false
set_option linter.unnecessarySimpa false
namespace Go.Proofs.YtledggdoehnlcaaGreat
open Go.RowKit N

/-- The errors of Recover and Correct. -/
def enR (d : Nat → Int) (N : Nat) (t : Int) : Int := if 1 ≤ t ∧ t ≤ 255 then (if (N : Int) < t then 8 else idR d N) else 7
set_option maxHeartbeats 4000000 in
set_option maxRecDepth 100000 in
theorem checkEnough_s (v : Value) (N : Nat) (d y : Nat → Int) (hN : N ≤ 4611686018427387904) (t : Int) (w : World) (hL : Hl w v N d y) :
    Calls Tryz.prog 41 #[v, .int .i64 t] w fun e w' => e = .returned (.int .i64 (enR d N t)) ∧ Chg w w' [] := by
  have hK := checkShares_s v N d y hN w hL
  obtain ⟨p, cp, rfl, _⟩ := hL.1.form
  clear hL
  by_cases h1 : 1 ≤ t ∧ t ≤ 255
  · have ho := okI_t h1
    by_cases h2 : (N : Int) < t
    · have HE : Hid (enR d N t = 8) := by show enR d N t = 8; unfold enR; rw [if_pos h1, if_pos h2]
      clear h1 hK
      go_enter Tryz.func41, Tryz.ntmps41
      go_wp2_with (go_at_call 87; refine (isThreshold_s _ _).mono ?_; rintro e w' ⟨rfl, rfl⟩; rw [ho])
      go_ret
      rw [HE.out]
      exact ⟨rfl, Chg.refl _ []⟩
    · have HE : Hid (enR d N t = idR d N) := by show enR d N t = idR d N; unfold enR; rw [if_pos h1, if_neg h2]
      clear h1
      go_enter Tryz.func41, Tryz.ntmps41
      go_wp2_with (first
        | (go_at_call 87; refine (isThreshold_s _ _).mono ?_; rintro e w' ⟨rfl, rfl⟩; rw [ho])
        | (go_at_call 24; refine hK.mono ?_; rintro e w1 ⟨rfl, k⟩))
      go_ret
      rw [HE.out]
      exact ⟨rfl, k⟩
  · have ho := okI_f h1
    have HE : Hid (enR d N t = 7) := by show enR d N t = 7; unfold enR; rw [if_neg h1]
    clear h1 hK
    go_enter Tryz.func41, Tryz.ntmps41
    go_wp2_with (go_at_call 87; refine (isThreshold_s _ _).mono ?_; rintro e w' ⟨rfl, rfl⟩; rw [ho])
    go_ret
    rw [HE.out]
    exact ⟨rfl, Chg.refl _ []⟩
/-- The first n of a list of shares. -/
theorem Hl.take {w : World} {p : Option Addr} {N c : Nat} {d y : Nat → Int} (h : Hl w (.slice p N c) N d y) {n : Nat} (h0 : 0 < n) (hn : n ≤ N) : Hl w (.slice p n c) n d y := by
  refine ⟨⟨fun i hi => h.1.1 i (by omega), ?_⟩, fun j hj => h.2 j (by omega)⟩
  rcases h.1.2 with ⟨h1, _⟩ | ⟨g, o, cap, e, h1, h2, h3, h4⟩
  · omega
  · simp only [Value.slice.injEq] at e
    obtain ⟨rfl, _, rfl⟩ := e
    exact Or.inr ⟨g, o, c, rfl, by omega, h2, h3, fun i hi => h4 i (by omega)⟩
/-- What Recover answers. -/
def RcR (d y : Nat → Int) (N : Nat) (t : Int) : Int × Int :=
  if ¬ enR d N t = 0 then (0, enR d N t) else if stL (nT (cc d y t.toNat)) t.toNat d y N = [] then (cc d y t.toNat 0, 0) else (0, 71)
theorem enR_zero {d : Nat → Int} {N : Nat} {t : Int} (h : enR d N t = 0) : 1 ≤ t ∧ t ≤ 255 ∧ t ≤ (N : Int) ∧ idR d N = 0 := by
  unfold enR at h
  by_cases h1 : 1 ≤ t ∧ t ≤ 255
  · rw [if_pos h1] at h
    by_cases h2 : (N : Int) < t
    · rw [if_pos h2] at h; omega
    · rw [if_neg h2] at h; exact ⟨h1.1, h1.2, by omega, h⟩
  · rw [if_neg h1] at h; omega
theorem Oi.form {w : World} {base : Nat} {v : Value} {l : List Int} (h : Oi w base v l) : ∃ p c, v = .slice p l.length c := by
  obtain ⟨p, c, e, _⟩ := OwnR.rl h |>.form
  exact ⟨p, c, e⟩
set_option maxHeartbeats 8000000 in
set_option maxRecDepth 100000 in
theorem Recover_s (v : Value) (N : Nat) (d y : Nat → Int) (hN : N ≤ 4611686018427387904) (t : Int) (hz : ∀ j, enR d N t = 0 → j < N → ¬ zv d j = 0) (w : World) (hL : Hl w v N d y) :
    Calls Tryz.prog 21 #[v, .int .i64 t] w fun e w' => e = .returned (.tuple #[fe (RcR d y N t).1, .int .i64 (RcR d y N t).2]) ∧ Chg w w' [] := by
  have hK := checkEnough_s v N d y hN t
  have HL : Hid (Hl w v N d y) := hL
  obtain ⟨p, cp, rfl, _⟩ := hL.1.form
  have F0 : Blk (w.alloc (.cells z32 24)) w.heap.size z32 24 := Blk.new w _ _
  have C0 : Chg w (w.alloc (.cells z32 24)) [] := (Chg.refl w []).alloc _
  have hK1 := hK _ (hL.chg C0)
  have HZ : Hid (∀ j, enR d N t = 0 → j < N → ¬ zv d j = 0) := hz
  clear hK hL hN hz
  go_enter Tryz.func21, Tryz.ntmps21
  go_wp2_with fail
  refine hK1.mono ?_
  rintro e w1 ⟨rfl, k⟩
  replace C0 := C0.trans1 k
  replace F0 := F0.chg k (by simp)
  clear hK1 k
  have HBz := built_z
  by_cases h0 : enR d N t = 0
  · obtain ⟨q1, q2, q3, q4⟩ := enR_zero h0
    obtain ⟨T, rfl⟩ : ∃ T : Nat, t = (T : Int) := ⟨t.toNat, by omega⟩
    have HT : Hid (0 < T ∧ T ≤ 255 ∧ T ≤ N) := by show 0 < T ∧ T ≤ 255 ∧ T ≤ N; omega
    have hT1 : (T : Int) ≤ (N : Int) := q3
    have hT0 : (0 : Int) ≤ (T : Int) := by omega
    have HN : Hid (N ≤ 255) := idE_len (idR_zero q4).1
    have HD : Hid (∀ i, i < N → 1 ≤ d i ∧ d i ≤ 255) := (idE_zero (idR_zero q4).1).1
    have HZ2 : Hid (∀ j, j < N → ¬ zv d j = 0) := fun j hj => HZ.out j h0 hj
    have HR : Hid (RcR d y N (T : Int) = if stL (nT (cc d y T)) T d y N = [] then (cc d y T 0, 0) else (0, 71)) := by
      show RcR d y N (T : Int) = _
      unfold RcR
      rw [if_neg (by simp [h0]), Int.toNat_natCast]
    have hcap : (T : Int) ≤ (cp : Int) := by
      rcases HL.out.1.2 with ⟨h1, _⟩ | ⟨g, o, cap, e, h1, _⟩
      · have := HT.out; omega
      · simp only [Value.slice.injEq] at e
        obtain ⟨_, _, rfl⟩ := e
        have := HT.out
        omega
    rw [h0]
    clear h0 q1 q2 q3 q4 HZ
    go_wp2_with fail
    refine (throughShares_s _ T d y HT.out.1 HT.out.2.1 (fun i hi => HD.out i (by have := HT.out; omega)) (fun j hj => HZ2.out j (by have := HT.out; omega)) w1 ((HL.out.take HT.out.1 HT.out.2.2).chg C0)).mono ?_
    rintro e w2 ⟨g, hg, rfl, S, k⟩
    replace C0 := C0.trans1 k
    replace F0 := F0.chg k (by simp)
    clear k hg
    have LC := S.ls (by have := HT.out; omega) (fun j _ => cc_r d y T j) (Nat.le_refl _)
    go_wp2_with fail
    refine (strays_s _ _ T (nT (cc d y T)) (by have := HT.out; omega) N d y HN.out HD.out w2 LC (HL.out.chg C0)).mono ?_
    rintro e w3 ⟨r, rfl, O, k⟩
    replace C0 := C0.trans1 k
    replace F0 := F0.chg k (by simp)
    replace S := S.chg k (by simp)
    clear k LC
    obtain ⟨pr, cr, rfl⟩ := O.form
    by_cases hs : stL (nT (cc d y T)) T d y N = []
    · have HRp : Hid (RcR d y N (T : Int) = (cc d y T 0, 0)) := by show RcR d y N (T : Int) = _; rw [HR.out, if_pos hs]
      have hln : (stL (nT (cc d y T)) T d y N).length = 0 := by rw [hs]; rfl
      have hT00 : (0 : Int) < (T : Int) := by have := HT.out; omega
      have hrg : w3.rangeAt g 0 (feL (cc d y T 0)) := by have := S.range HT.out.1; rwa [Nat.zero_mul] at this
      rw [hln]
      clear hs hln S O HR
      go_wp2_with (first
        | (refine load_sc rfl _ rfl g 0 (cc d y T 0) rfl hrg ?_)
        | (refine store_w F0 rfl 24 _ _ (feC (cc d y T 0)) rfl rfl rfl feInfo rfl (feC_one _) ?_; intro w4 F4 k4))
      exact bodyPost_ret (results_cell_tmp Tryz.results21 _ _ w.heap.size 24 (feC (cc d y T 0)) _ _ rfl rfl F4 Tryz.underlying24 rfl feInfo) rfl ⟨(by rw [HRp.out]; rfl), C0.new k4 (Nat.le_refl _)⟩
    · have HRp : Hid (RcR d y N (T : Int) = (0, 71)) := by show RcR d y N (T : Int) = _; rw [HR.out, if_neg hs]
      have hln : (0 : Int) < ((stL (nT (cc d y T)) T d y N).length : Int) := by
        have := List.length_pos_iff.2 hs; omega
      clear hs HR S O
      go_wp2_with (first
        | (with_reducible refine build_0 ?_ 24 ?_ (feC 0) HBz ?_
           · rfl
           · rfl)
        | (refine store_w F0 rfl 24 _ _ (feC 0) rfl rfl rfl feInfo rfl (feC_one _) ?_; intro w4 F4 k4))
      exact bodyPost_ret (results_cell_tmp Tryz.results21 _ _ w.heap.size 24 (feC 0) _ _ rfl rfl F4 Tryz.underlying24 rfl feInfo) rfl ⟨(by rw [HRp.out]; rfl), C0.new k4 (Nat.le_refl _)⟩
  · have HRp : Hid (RcR d y N t = (0, enR d N t)) := by show RcR d y N t = _; unfold RcR; rw [if_pos h0]
    clear HZ
    go_wp2_with (first
      | (with_reducible refine build_0 ?_ 24 ?_ (feC 0) HBz ?_
         · rfl
         · rfl)
      | (refine store_w F0 rfl 24 _ _ (feC 0) rfl rfl rfl feInfo rfl (feC_one _) ?_; intro w4 F4 k4))
    exact bodyPost_ret (results_cell_tmp Tryz.results21 _ _ w.heap.size 24 (feC 0) _ _ rfl rfl F4 Tryz.underlying24 rfl feInfo) rfl ⟨(by rw [HRp.out]; rfl), C0.new k4 (Nat.le_refl _)⟩
end Go.Proofs.YtledggdoehnlcaaGreat
