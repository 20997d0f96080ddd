/- drbg.joined. -/
import Derived.Test.YthpfdnkcepfbaaaDoorDr2
set_option linter.unusedVariables false
set_option linter.unusedSimpArgs false
set_option linter.unnecessarySimpa false
namespace Go.Proofs.YthpfdnkcepfbaaaDoor
open Go.RowKit

/-- Digests one behind the other; the first of their bytes, behind them 0. -/
def jn (D : Nat → Nat → Nat) : Nat → Nat := fun j => D (j / 64) (j % 64)
def jl (D : Nat → Nat → Nat) (n : Nat) : Nat → Nat := fun j => if j < n then jn D j else 0
theorem jl_0 (D : Nat → Nat → Nat) : jl D 0 = fun _ => 0 := by funext j; unfold jl; rw [if_neg (by omega)]
theorem lay_jl {D : Nat → Nat → Nat} {fl c i : Nat} (h : fl = 64 * i) (hc : c ≤ 64) (j : Nat) : lay (jl D fl) fl c (D i) j = jl D (fl + c) j := by
  unfold lay jl jn
  by_cases h1 : fl ≤ j ∧ j < fl + c
  · rw [if_pos h1, if_pos h1.2, show j / 64 = i by omega, show j % 64 = j - fl by omega]
  · rw [if_neg h1]
    by_cases h2 : j < fl
    · rw [if_pos h2, if_pos (by omega)]
    · rw [if_neg h2, if_neg (by omega)]
theorem make_y' (r : Nat) (hr : r ≤ 65536) (W : World) : (Instr.makeSlice 22 (.int .i64 (r : Int)) (.int .i64 (r : Int))).run Tryd.prog W = .ok (.slice (some ⟨W.heap.size, 0, none⟩) r r) (W.alloc (.cells (yC r fun _ => 0) 5)) := by
  obtain ⟨i, hi, hz, h1, h2⟩ := u8Row
  have h := run_make (P := Tryd.prog) W 22 5 i (.int .u8 0) Tryd.underlying22 hi hz .i64 .i64 (r : Int) (r : Int) (by omega) (by omega) (by rw [h2]; omega) (by omega)
  rw [h, h1, Int.toNat_natCast, Nat.mul_one]
  show Result.ok _ (W.alloc (.cells (madeCells #[.int .u8 0] r) 5)) = _
  rw [made_y]
set_option maxHeartbeats 8000000 in
set_option maxRecDepth 100000 in
theorem joined_n (g : Nat) (N : Nat) (hN : N ≤ 65536) (w : World) (D : Nat → Nat → Nat) (hD : ∀ i j, D i j < 256) (L : List Nat) (hL : ∀ b, b ∈ L → b < w.heap.size) (P : Nat → Nat → World → Prop)
    (h0 : ∀ ob w', w.heap.size ≤ ob → Chg w w' [] → P ob 0 w')
    (hNx : ∀ ob i w', w.heap.size ≤ ob → ob < w'.heap.size → P ob i w' → Calls Tryd.prog 68 #[.pointer (some ⟨g, 0, none⟩)] w' fun e w'' => e = .returned (.agg (yC 64 (D i))) ∧ P ob (i + 1) w'' ∧ Chg w' w'' L)
    (hCx : ∀ ob i w1 w2 l, P ob i w1 → Chg w1 w2 l → (∀ b, b ∈ l → b = ob ∨ w1.heap.size ≤ b) → P ob i w2) :
    Calls Tryd.prog 41 #[.int .i64 (N : Int), .func (.func 68) #[.pointer (some ⟨g, 0, none⟩)] #[]] w fun e w' => ∃ ob, e = .returned (.slice (some ⟨ob, 0, none⟩) N N) ∧ w.heap.size ≤ ob ∧ Blk w' ob (yC N (jn D)) 5 ∧ P ob ((N + 63) / 64) w' ∧ Chg w w' L := by
  have HN : Hid (∀ ob i w', w.heap.size ≤ ob → ob < w'.heap.size → P ob i w' → Calls Tryd.prog 68 #[.pointer (some ⟨g, 0, none⟩)] w' fun e w'' => e = .returned (.agg (yC 64 (D i))) ∧ P ob (i + 1) w'' ∧ Chg w' w'' L) := hNx
  have HC : Hid (∀ ob i w1 w2 l, P ob i w1 → Chg w1 w2 l → (∀ b, b ∈ l → b = ob ∨ w1.heap.size ≤ b) → P ob i w2) := hCx
  have HD : Hid (∀ i j, D i j < 256) := hD
  have HL : Hid (∀ b, b ∈ L → b < w.heap.size) := hL
  have H0 : Hid (∀ ob w', w.heap.size ≤ ob → Chg w w' [] → P ob 0 w') := h0
  have hmk := make_y' N hN
  have HB : Hid (N ≤ 65536) := hN
  clear h0 hNx hCx hD hL
  go_enter Tryd.func41, Tryd.ntmps41
  go_wp2_with fail
  have BO0 := Blk.new w (yC N (fun _ => 0)) 5
  have k0 := (Chg.refl w []).alloc (.cells (yC N (fun _ => 0)) 5)
  generalize w.alloc (.cells (yC N (fun _ => 0)) 5) = w1 at *
  obtain ⟨ob, hob⟩ : ∃ z, w.heap.size = z := ⟨_, rfl⟩
  have HOB : Hid (w.heap.size ≤ ob ∧ ¬ ob ∈ L) := ⟨by omega, fun hx => by have := HL.out ob hx; omega⟩
  have P0 := H0.out ob w1 (by omega) k0
  rw [hob] at BO0 ⊢
  clear hob hmk
  go_loopw [6] (fun t wr => ∃ i fl : Nat, t = .int .i64 (fl : Int) ∧ fl = min (64 * i) N ∧ (i = 0 ∨ 64 * (i - 1) < N) ∧ Blk wr ob (yC N (jl D fl)) 5 ∧ P ob i wr ∧ Chg w wr L) (fun t _ => ((N : Int) - intOf t).toNat)
  case atStart => exact ⟨0, 0, rfl, by simp, Or.inl rfl, BO0.to (by rw [jl_0]), P0, k0.wide⟩
  case round =>
    obtain ⟨i, fl, rfl, hfl, hi, BO, PW, C0⟩ := hrel
    by_cases h8 : fl < N
    · have hI : (fl : Int) < (N : Int) := by omega
      have hI2 : ¬ (N : Nat) = fl := by omega
      have hI3 : (fl : Int) ≤ (N : Int) := by omega
      have hI4 : (0 : Int) ≤ (fl : Int) := by omega
      obtain ⟨c, hc⟩ : ∃ c, c = Nat.min 64 (N - fl) := ⟨_, rfl⟩
      have hc2 : c = min 64 (N - fl) := hc
      have HCM : Hid (c = Nat.min 64 (N - fl)) := hc
      have HCL : Hid (c ≤ 64 ∧ fl + c ≤ N ∧ 0 < c ∧ fl < N) := by show c ≤ 64 ∧ fl + c ≤ N ∧ 0 < c ∧ fl < N; omega
      have h64 : fl = 64 * i := by omega
      have HF1 : Hid (fl + c = min (64 * (i + 1)) N) := by show fl + c = min (64 * (i + 1)) N; omega
      have HF2 : Hid (i + 1 = 0 ∨ 64 * (i + 1 - 1) < N) := by show i + 1 = 0 ∨ 64 * (i + 1 - 1) < N; omega
      have HLY : Hid (yC N (lay (jl D fl) fl c (D i)) = yC N (jl D (fl + c))) := yC_eq fun j hj => lay_jl h64 HCL.out.1 j
      have e9 : IntKind.i64.wrap ((fl : Int) + (c : Int)) = ((fl + c : Nat) : Int) := by have := HB.out; rw [IntKind.wrap_i64]; omega
      clear hc hc2 hfl hi h64
      go_wp2_with fail
      refine (HN.out ob i wr HOB.out.1 BO.lt PW).mono ?_
      rintro e w2 ⟨rfl, P2, k2⟩
      replace BO := BO.chg k2 HOB.out.2
      have C2 := C0.trans1 k2
      clear k2 PW C0
      have HO2 : Hid (ob < w2.heap.size) := BO.lt
      go_upto_region 5 with (first
        | (have _h := BD; refine store_w BD rfl 47 _ _ (yC 64 (D i)) rfl rfl rfl (by rw [yC_size]; exact digInfo) (by rw [yC_size, yC_size]) (yC_one 64 _) ?_; intro w4 BD4 k4)
        | (with_reducible refine alloc_w rfl 47 rfl (.agg (yC 64 (fun _ => 0))) zeroDig (yC 64 (fun _ => 0)) rfl ?_; intro db w3 hdb BD k3))
      have SD := BD4.bs (fun j _ => HD.out i j)
      replace BO := (BO.chg k3 (by simp)).chg k4 (by have := HO2.out; simp; omega)
      have c34 : Chg w2 w4 [] := k3.new k4 hdb
      have P4 := HC.out ob (i + 1) _ _ [] P2 c34 (fun b hb => by simp at hb)
      have C4 := C2.trans c34 (by simp)
      have HNO : Hid (∀ b, b ∈ [ob] → b ∈ L ∨ w.heap.size ≤ b) := by show ∀ b, b ∈ [ob] → _; intro b hb; simp at hb; subst hb; exact Or.inr HOB.out.1
      clear BD k3 k4 c34 P2 C2 hdb BD4
      refine wp_region_held_drew (S := fun w' => Chg w4 w' [ob]) (by kernel_rfl) ((Chg.refl w4 _).drew) (fun hHeld => ?_)
      refine take_val (v := ?_) 0 (some 15) rfl (by kernel_rfl) (by kernel_rfl) (by kernel_rfl) (fun _ _ _ h => h) rfl rfl (fun w hSw => ?_) hHeld ?_
      rotate_left
      · (go_simp; try with_reducible rfl)
      try simp only [Act.put, List.setIfInBounds_toArray, List.set_cons_zero, List.set_cons_succ]
      refine take_val (v := ?_) 1 (some 16) rfl (by kernel_rfl) (by kernel_rfl) (by kernel_rfl) (fun _ _ _ h => h) rfl rfl (fun w hSw => ?_) hHeld ?_
      rotate_left
      · (go_simp; try with_reducible rfl)
      try simp only [Act.put, List.setIfInBounds_toArray, List.set_cons_zero, List.set_cons_succ]
      refine take_val (v := ?_) 2 (some 17) rfl (by kernel_rfl) (by kernel_rfl) (by kernel_rfl) (fun _ _ _ h => h) rfl rfl (fun w hSw => ?_) hHeld ?_
      rotate_left
      · (go_simp; try with_reducible rfl)
      try simp only [Act.put, List.setIfInBounds_toArray, List.set_cons_zero, List.set_cons_succ]
      refine take_val (v := (.slice (some ⟨ob, fl, none⟩) (N - fl) (N - fl))) 3 (some 18) rfl (by kernel_rfl) (by kernel_rfl) (by kernel_rfl) (fun _ _ _ h => h) rfl rfl (fun w hSw => ?_) hHeld ?_
      · (go_simp; try with_reducible rfl)
      try simp only [Act.put, List.setIfInBounds_toArray, List.set_cons_zero, List.set_cons_succ]
      refine take_val (v := (.slice (some ⟨db, 0, none⟩) 64 64)) 4 (some 19) rfl (by kernel_rfl) (by kernel_rfl) (by kernel_rfl) (fun _ _ _ h => h) rfl rfl (fun w hSw => ?_) hHeld ?_
      · (go_simp; try with_reducible rfl)
      try simp only [Act.put, List.setIfInBounds_toArray, List.set_cons_zero, List.set_cons_succ]
      refine wpAnyH_ready (rs := [5]) (by kernel_rfl) (by simp) ?_
      refine AllReadyH.cons (o := _) rfl (fun K hK => ?_) ?_
      ·
        rw [if_pos (by rfl)]
        refine copy_yo (.tmp 18) (.tmp 19) 22 22 rfl 5 Tryd.underlying22 u8Info ob fl (N - fl) (N - fl) (some ⟨db, 0, none⟩) 64 64 rfl rfl #[] N (jl D fl) #[] 5 BO.drew.seg fl c (D i) (fun _ => by simp) HCM.out (fun _ => ⟨db, 0, rfl, fun j hj => SD.drew.cell j (by have := HCL.out; omega)⟩) (by have := HCL.out; omega) ?_
        intro v5 B5 k5
        replace B5 := B5.unseg
        rw [HLY.out] at B5
        change K (Act.put _ (some 20) (.int .i64 (c : Int))) _
        refine hK.out _ _ (hHeld.trans1 k5) (fun hHeld => ?_)
        clear hK K
        try simp only [Act.put, List.setIfInBounds_toArray, List.set_cons_zero, List.set_cons_succ]
        refine take_val (v := (.int .i64 ((fl + c : Nat) : Int))) 6 (some 21) rfl (by kernel_rfl) (by kernel_rfl) (by kernel_rfl) (fun _ _ _ h => h) rfl rfl (fun w hSw => ?_) hHeld ?_
        · have ee := e9
          (go_simp; try with_reducible rfl)
        try simp only [Act.put, List.setIfInBounds_toArray, List.set_cons_zero, List.set_cons_succ]
        refine take_val (v := ?_) 7 (some 6) rfl (by kernel_rfl) (by kernel_rfl) (by kernel_rfl) (fun _ _ _ h => h) rfl rfl (fun w hSw => ?_) hHeld ?_
        rotate_left
        · (go_simp; try with_reducible rfl)
        try simp only [Act.put, List.setIfInBounds_toArray, List.set_cons_zero, List.set_cons_succ]
        refine wpAnyH_done (by kernel_rfl) ?_ _
        have PX := HC.out ob (i + 1) _ _ [ob] P4 hHeld (fun b hb => Or.inl (by simpa using hb))
        have CX := C4.trans hHeld HNO.out
        clear hHeld P4 C4 SD
        go_wp2_with fail
        exact ⟨⟨i + 1, fl + c, rfl, HF1.out, HF2.out, B5, PX, CX⟩, by have := HCL.out; simp [intOf]; omega⟩
      exact AllReadyH.nil
    · have HE : Hid (N = fl) := by show N = fl; omega
      have HE2 : Hid (i = (N + 63) / 64) := by show i = (N + 63) / 64; omega
      have hI : ¬ (fl : Int) < (N : Int) := by omega
      have BE := BO.to (show yC N (jl D fl) = yC N (jn D) from yC_eq fun j hj => by unfold jl; rw [if_pos (by have := HE.out; omega)])
      rw [HE2.out] at PW
      clear hfl hi h8 BO
      go_wp2_with fail
      go_ret
      exact ⟨ob, rfl, HOB.out.1, BE, PW, C0⟩
set_option maxHeartbeats 8000000 in
set_option maxRecDepth 100000 in
theorem joined_x (a0 a1 a2 a3 : Nat) (N : Nat) (hN : N ≤ 65536) (w : World) (D : Nat → Nat → Nat) (hD : ∀ i j, D i j < 256) (L : List Nat) (hL : ∀ b, b ∈ L → b < w.heap.size) (P : Nat → Nat → World → Prop)
    (h0 : ∀ ob w', w.heap.size ≤ ob → Chg w w' [] → P ob 0 w')
    (hNx : ∀ ob i w', w.heap.size ≤ ob → ob < w'.heap.size → P ob i w' → Calls Tryd.prog 40 #[.pointer (some ⟨a0, 0, none⟩), .pointer (some ⟨a1, 0, none⟩), .pointer (some ⟨a2, 0, none⟩), .pointer (some ⟨a3, 0, none⟩)] w' fun e w'' => e = .returned (.agg (yC 64 (D i))) ∧ P ob (i + 1) w'' ∧ Chg w' w'' L)
    (hCx : ∀ ob i w1 w2 l, P ob i w1 → Chg w1 w2 l → (∀ b, b ∈ l → b = ob ∨ w1.heap.size ≤ b) → P ob i w2) :
    Calls Tryd.prog 41 #[.int .i64 (N : Int), .func (.func 40) #[] #[.pointer (some ⟨a0, 0, none⟩), .pointer (some ⟨a1, 0, none⟩), .pointer (some ⟨a2, 0, none⟩), .pointer (some ⟨a3, 0, none⟩)]] w fun e w' => ∃ ob, e = .returned (.slice (some ⟨ob, 0, none⟩) N N) ∧ w.heap.size ≤ ob ∧ Blk w' ob (yC N (jn D)) 5 ∧ P ob ((N + 63) / 64) w' ∧ Chg w w' L := by
  have HN : Hid (∀ ob i w', w.heap.size ≤ ob → ob < w'.heap.size → P ob i w' → Calls Tryd.prog 40 #[.pointer (some ⟨a0, 0, none⟩), .pointer (some ⟨a1, 0, none⟩), .pointer (some ⟨a2, 0, none⟩), .pointer (some ⟨a3, 0, none⟩)] w' fun e w'' => e = .returned (.agg (yC 64 (D i))) ∧ P ob (i + 1) w'' ∧ Chg w' w'' L) := hNx
  have HC : Hid (∀ ob i w1 w2 l, P ob i w1 → Chg w1 w2 l → (∀ b, b ∈ l → b = ob ∨ w1.heap.size ≤ b) → P ob i w2) := hCx
  have HD : Hid (∀ i j, D i j < 256) := hD
  have HL : Hid (∀ b, b ∈ L → b < w.heap.size) := hL
  have H0 : Hid (∀ ob w', w.heap.size ≤ ob → Chg w w' [] → P ob 0 w') := h0
  have hmk := make_y' N hN
  have HB : Hid (N ≤ 65536) := hN
  clear h0 hNx hCx hD hL
  go_enter Tryd.func41, Tryd.ntmps41
  go_wp2_with fail
  have BO0 := Blk.new w (yC N (fun _ => 0)) 5
  have k0 := (Chg.refl w []).alloc (.cells (yC N (fun _ => 0)) 5)
  generalize w.alloc (.cells (yC N (fun _ => 0)) 5) = w1 at *
  obtain ⟨ob, hob⟩ : ∃ z, w.heap.size = z := ⟨_, rfl⟩
  have HOB : Hid (w.heap.size ≤ ob ∧ ¬ ob ∈ L) := ⟨by omega, fun hx => by have := HL.out ob hx; omega⟩
  have P0 := H0.out ob w1 (by omega) k0
  rw [hob] at BO0 ⊢
  clear hob hmk
  go_loopw [6] (fun t wr => ∃ i fl : Nat, t = .int .i64 (fl : Int) ∧ fl = min (64 * i) N ∧ (i = 0 ∨ 64 * (i - 1) < N) ∧ Blk wr ob (yC N (jl D fl)) 5 ∧ P ob i wr ∧ Chg w wr L) (fun t _ => ((N : Int) - intOf t).toNat)
  case atStart => exact ⟨0, 0, rfl, by simp, Or.inl rfl, BO0.to (by rw [jl_0]), P0, k0.wide⟩
  case round =>
    obtain ⟨i, fl, rfl, hfl, hi, BO, PW, C0⟩ := hrel
    by_cases h8 : fl < N
    · have hI : (fl : Int) < (N : Int) := by omega
      have hI2 : ¬ (N : Nat) = fl := by omega
      have hI3 : (fl : Int) ≤ (N : Int) := by omega
      have hI4 : (0 : Int) ≤ (fl : Int) := by omega
      obtain ⟨c, hc⟩ : ∃ c, c = Nat.min 64 (N - fl) := ⟨_, rfl⟩
      have hc2 : c = min 64 (N - fl) := hc
      have HCM : Hid (c = Nat.min 64 (N - fl)) := hc
      have HCL : Hid (c ≤ 64 ∧ fl + c ≤ N ∧ 0 < c ∧ fl < N) := by show c ≤ 64 ∧ fl + c ≤ N ∧ 0 < c ∧ fl < N; omega
      have h64 : fl = 64 * i := by omega
      have HF1 : Hid (fl + c = min (64 * (i + 1)) N) := by show fl + c = min (64 * (i + 1)) N; omega
      have HF2 : Hid (i + 1 = 0 ∨ 64 * (i + 1 - 1) < N) := by show i + 1 = 0 ∨ 64 * (i + 1 - 1) < N; omega
      have HLY : Hid (yC N (lay (jl D fl) fl c (D i)) = yC N (jl D (fl + c))) := yC_eq fun j hj => lay_jl h64 HCL.out.1 j
      have e9 : IntKind.i64.wrap ((fl : Int) + (c : Int)) = ((fl + c : Nat) : Int) := by have := HB.out; rw [IntKind.wrap_i64]; omega
      clear hc hc2 hfl hi h64
      go_wp2_with fail
      refine (HN.out ob i wr HOB.out.1 BO.lt PW).mono ?_
      rintro e w2 ⟨rfl, P2, k2⟩
      replace BO := BO.chg k2 HOB.out.2
      have C2 := C0.trans1 k2
      clear k2 PW C0
      have HO2 : Hid (ob < w2.heap.size) := BO.lt
      go_upto_region 5 with (first
        | (have _h := BD; refine store_w BD rfl 47 _ _ (yC 64 (D i)) rfl rfl rfl (by rw [yC_size]; exact digInfo) (by rw [yC_size, yC_size]) (yC_one 64 _) ?_; intro w4 BD4 k4)
        | (with_reducible refine alloc_w rfl 47 rfl (.agg (yC 64 (fun _ => 0))) zeroDig (yC 64 (fun _ => 0)) rfl ?_; intro db w3 hdb BD k3))
      have SD := BD4.bs (fun j _ => HD.out i j)
      replace BO := (BO.chg k3 (by simp)).chg k4 (by have := HO2.out; simp; omega)
      have c34 : Chg w2 w4 [] := k3.new k4 hdb
      have P4 := HC.out ob (i + 1) _ _ [] P2 c34 (fun b hb => by simp at hb)
      have C4 := C2.trans c34 (by simp)
      have HNO : Hid (∀ b, b ∈ [ob] → b ∈ L ∨ w.heap.size ≤ b) := by show ∀ b, b ∈ [ob] → _; intro b hb; simp at hb; subst hb; exact Or.inr HOB.out.1
      clear BD k3 k4 c34 P2 C2 hdb BD4
      refine wp_region_held_drew (S := fun w' => Chg w4 w' [ob]) (by kernel_rfl) ((Chg.refl w4 _).drew) (fun hHeld => ?_)
      refine take_val (v := ?_) 0 (some 15) rfl (by kernel_rfl) (by kernel_rfl) (by kernel_rfl) (fun _ _ _ h => h) rfl rfl (fun w hSw => ?_) hHeld ?_
      rotate_left
      · (go_simp; try with_reducible rfl)
      try simp only [Act.put, List.setIfInBounds_toArray, List.set_cons_zero, List.set_cons_succ]
      refine take_val (v := ?_) 1 (some 16) rfl (by kernel_rfl) (by kernel_rfl) (by kernel_rfl) (fun _ _ _ h => h) rfl rfl (fun w hSw => ?_) hHeld ?_
      rotate_left
      · (go_simp; try with_reducible rfl)
      try simp only [Act.put, List.setIfInBounds_toArray, List.set_cons_zero, List.set_cons_succ]
      refine take_val (v := ?_) 2 (some 17) rfl (by kernel_rfl) (by kernel_rfl) (by kernel_rfl) (fun _ _ _ h => h) rfl rfl (fun w hSw => ?_) hHeld ?_
      rotate_left
      · (go_simp; try with_reducible rfl)
      try simp only [Act.put, List.setIfInBounds_toArray, List.set_cons_zero, List.set_cons_succ]
      refine take_val (v := (.slice (some ⟨ob, fl, none⟩) (N - fl) (N - fl))) 3 (some 18) rfl (by kernel_rfl) (by kernel_rfl) (by kernel_rfl) (fun _ _ _ h => h) rfl rfl (fun w hSw => ?_) hHeld ?_
      · (go_simp; try with_reducible rfl)
      try simp only [Act.put, List.setIfInBounds_toArray, List.set_cons_zero, List.set_cons_succ]
      refine take_val (v := (.slice (some ⟨db, 0, none⟩) 64 64)) 4 (some 19) rfl (by kernel_rfl) (by kernel_rfl) (by kernel_rfl) (fun _ _ _ h => h) rfl rfl (fun w hSw => ?_) hHeld ?_
      · (go_simp; try with_reducible rfl)
      try simp only [Act.put, List.setIfInBounds_toArray, List.set_cons_zero, List.set_cons_succ]
      refine wpAnyH_ready (rs := [5]) (by kernel_rfl) (by simp) ?_
      refine AllReadyH.cons (o := _) rfl (fun K hK => ?_) ?_
      ·
        rw [if_pos (by rfl)]
        refine copy_yo (.tmp 18) (.tmp 19) 22 22 rfl 5 Tryd.underlying22 u8Info ob fl (N - fl) (N - fl) (some ⟨db, 0, none⟩) 64 64 rfl rfl #[] N (jl D fl) #[] 5 BO.drew.seg fl c (D i) (fun _ => by simp) HCM.out (fun _ => ⟨db, 0, rfl, fun j hj => SD.drew.cell j (by have := HCL.out; omega)⟩) (by have := HCL.out; omega) ?_
        intro v5 B5 k5
        replace B5 := B5.unseg
        rw [HLY.out] at B5
        change K (Act.put _ (some 20) (.int .i64 (c : Int))) _
        refine hK.out _ _ (hHeld.trans1 k5) (fun hHeld => ?_)
        clear hK K
        try simp only [Act.put, List.setIfInBounds_toArray, List.set_cons_zero, List.set_cons_succ]
        refine take_val (v := (.int .i64 ((fl + c : Nat) : Int))) 6 (some 21) rfl (by kernel_rfl) (by kernel_rfl) (by kernel_rfl) (fun _ _ _ h => h) rfl rfl (fun w hSw => ?_) hHeld ?_
        · have ee := e9
          (go_simp; try with_reducible rfl)
        try simp only [Act.put, List.setIfInBounds_toArray, List.set_cons_zero, List.set_cons_succ]
        refine take_val (v := ?_) 7 (some 6) rfl (by kernel_rfl) (by kernel_rfl) (by kernel_rfl) (fun _ _ _ h => h) rfl rfl (fun w hSw => ?_) hHeld ?_
        rotate_left
        · (go_simp; try with_reducible rfl)
        try simp only [Act.put, List.setIfInBounds_toArray, List.set_cons_zero, List.set_cons_succ]
        refine wpAnyH_done (by kernel_rfl) ?_ _
        have PX := HC.out ob (i + 1) _ _ [ob] P4 hHeld (fun b hb => Or.inl (by simpa using hb))
        have CX := C4.trans hHeld HNO.out
        clear hHeld P4 C4 SD
        go_wp2_with fail
        exact ⟨⟨i + 1, fl + c, rfl, HF1.out, HF2.out, B5, PX, CX⟩, by have := HCL.out; simp [intOf]; omega⟩
      exact AllReadyH.nil
    · have HE : Hid (N = fl) := by show N = fl; omega
      have HE2 : Hid (i = (N + 63) / 64) := by show i = (N + 63) / 64; omega
      have hI : ¬ (fl : Int) < (N : Int) := by omega
      have BE := BO.to (show yC N (jl D fl) = yC N (jn D) from yC_eq fun j hj => by unfold jl; rw [if_pos (by have := HE.out; omega)])
      rw [HE2.out] at PW
      clear hfl hi h8 BO
      go_wp2_with fail
      go_ret
      exact ⟨ob, rfl, HOB.out.1, BE, PW, C0⟩
end Go.Proofs.YthpfdnkcepfbaaaDoor
