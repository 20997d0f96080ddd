/- ShamirSums: the walk. -/
import Derived.Test.YtmoahgeclmediabMgE
import Derived.Test.YtmoahgeclmediabShM1
import Derived.Test.YtmoahgeclmediabAddsWalk
set_option linter.unusedVariables false
set_option linter.unusedSimpArgs false
set_option linter.unnecessarySimpa false
namespace Go.Proofs.Ytmoahgeclmediab
open Go.RowKit N

/-- The first i of a, reduced. -/
def s1 (a : Nat → Nat) (i j : Nat) : Int := if j < i then ad 0 ((a j : Nat) : Int) else 0
theorem s1_at (a : Nat → Nat) (i : Nat) : s1 a i i = 0 := if_neg (by omega)
theorem s1_step (a : Nat → Nat) (i j : Nat) : upS (s1 a i) i (ad 0 ((a i : Nat) : Int)) j = s1 a (i + 1) j := upS_step (fun j => ad 0 ((a j : Nat) : Int)) i j
def s2 (a b : Nat → Nat) (A : Nat) (t : Int) (j : Nat) : Int := ad (s1 a A j) (ml t ((b j : Nat) : Int))
theorem s1_r (a : Nat → Nat) (i j : Nat) : R256 (s1 a i j) := by
  unfold s1
  by_cases h : j < i
  · rw [if_pos h]; exact r256_mod _
  · rw [if_neg h]; exact r256_c0
def s3 (a b : Nat → Nat) (A B : Nat) (t : Int) : Nat → Int := mq (s1 a A) (s2 a b A t) B
theorem s3_r (a b : Nat → Nat) (A B : Nat) (t : Int) (j : Nat) : R256 (s3 a b A B t j) := by
  unfold s3 mq
  by_cases h : j < B
  · rw [if_pos h]; exact r256_mod _
  · rw [if_neg h]; exact s1_r a A j
theorem s3_mod (a b : Nat → Nat) (A B : Nat) (t : Int) (j : Nat) : ((nT (s3 a b A B t) j : Nat) : Int) % L = ((if j < A then ((a j : Nat) : Int) else 0) + t * (if j < B then ((b j : Nat) : Int) else 0)) % L := by
  rw [nT_c _ _ (s3_r a b A B t j).1]
  have e1 : s1 a A j % L = (if j < A then ((a j : Nat) : Int) else 0) % L := by
    unfold s1 ad
    by_cases h : j < A
    · rw [if_pos h, if_pos h, Int.zero_add, Int.emod_emod_of_dvd _ (Int.dvd_refl L)]
    · rw [if_neg h, if_neg h]
  unfold s3 mq
  by_cases h : j < B
  · rw [if_pos h, if_pos h]
    unfold s2 ad ml
    rw [Int.emod_emod_of_dvd _ (Int.dvd_refl L), Int.add_emod, e1, Int.emod_emod_of_dvd _ (Int.dvd_refl L), ← Int.add_emod]
  · rw [if_neg h, if_neg h, e1, Int.mul_zero, Int.add_zero]
theorem Add_qi {a b c : Int} (ra : R256 a) (rb : R256 b) (h : ad a b = c) (w : World) : Calls Try.prog 16 #[fe a, fe b] w fun e w' => e = .returned (fe c) ∧ Chg w w' [] := by rw [← h]; exact Add_q a b ra rb w
theorem hb_vr {w : World} {g N : Nat} {d y : Nat → Int} (h : Hb w g N d y) {i : Nat} (hi : i < N) : w.rangeAt g (i * 33 + 1) (feL (y i)) := by
  intro j v hv
  have := Blk.rangeRw h (hF_ok N d y) hi (j + 1) v (by unfold hF; rw [List.getElem?_cons_succ]; exact hv)
  rw [← this]
  congr 2
  omega
theorem hb_id {w : World} {g N : Nat} {d y : Nat → Int} (h : Hb w g N d y) {i : Nat} (hi : i < N) : w.cell? ⟨g, i * 33, none⟩ = some (.int .i64 (d i)) := by
  have := Blk.rangeRw h (hF_ok N d y) hi 0 (.int .i64 (d i)) rfl
  rwa [Nat.add_zero] at this
set_option maxHeartbeats 32000000 in
set_option maxRecDepth 100000 in
theorem sums_walk (va vb vi : Value) (A B N n : Nat) (a b : Nat → Nat) (d : Nat → Int) (t : Int) (rt : R256 t) (hA : A ≤ 4398046511000) (hB : B ≤ 4398046511000) (hN : N ≤ 4611686018427387904) (hn : (if A < B then B else A) = n) (w : World) (hLa : Ls w va A a) (hLb : Ls w vb B b) (hLi : Il w vi N d) :
    Calls Try.prog 5 #[va, vb, fe t, vi] w fun e w' => e = .returned (.bool true) ∧ Chg w w' [] := by
  have HLa : Hid (Ls w va A a) := hLa
  have HLb : Hid (Ls w vb B b) := hLb
  have HLi : Hid (Il w vi N d) := hLi
  have HRa : Hid (∀ i, i < A → R256 ((a i : Nat) : Int)) := fun i hi => hLa.r256 hi
  have HRb : Hid (∀ i, i < B → R256 ((b i : Nat) : Int)) := fun i hi => hLb.r256 hi
  obtain ⟨pa, ca, rfl, hpa⟩ := hLa.range
  obtain ⟨pb, cb, rfl, hpb⟩ := hLb.range
  obtain ⟨pi, ci, rfl, hpi⟩ := hLi.form
  have HPa : Hid (∀ i, i < A → ∃ g o, pa = some ⟨g, o, none⟩ ∧ g < w.heap.size ∧ w.rangeAt g (o + i * 32) (feL (a i : Nat))) := hpa
  have HPb : Hid (∀ i, i < B → ∃ g o, pb = some ⟨g, o, none⟩ ∧ g < w.heap.size ∧ w.rangeAt g (o + i * 32) (feL (b i : Nat))) := hpb
  have HPi : Hid (∀ i, i < N → ∃ g o, pi = some ⟨g, o, none⟩ ∧ g < w.heap.size ∧ w.cell? ⟨g, o + i, none⟩ = some (.int .i64 (d i))) := hpi
  have HRt : Hid (R256 t) := rt
  have HB : Hid (A ≤ 4398046511000 ∧ B ≤ 4398046511000 ∧ N ≤ 4611686018427387904 ∧ A ≤ n ∧ B ≤ n ∧ n ≤ 4398046511000) := ⟨hA, hB, hN, by rw [← hn]; split <;> omega, by rw [← hn]; split <;> omega, by rw [← hn]; split <;> omega⟩
  have HNN : Hid ((if A < B then B else A) = n) := hn
  clear hLa hLb hLi hpa hpb hpi rt hA hB hN hn
  have hge := feGuard
  go_enter Try.func5, Try.ntmps5
  go_wp2_with (refine box_w rfl 24 _ rfl (feC t) rfl ?_; intro kb w1 hkb Bk k1)
  refine (alive_s w1).mono ?_
  rintro e w2 ⟨rfl, k2⟩
  have C : Chg w w2 [] := k1.trans1 k2
  replace Bk := Bk.chg k2 (by simp)
  have HKB : Hid (w.heap.size ≤ kb) := hkb
  clear k1 k2 hkb
  go_upto_if 27 with fail
  go_cut [9] (fun t9 wc => t9 = .int .i64 (n : Int) ∧ wc = w2)
  case first =>
    by_cases h : A < B
    · have h1 : (A : Int) < (B : Int) := by omega
      have HH2 : Hid (B = n) := by have := HNN.out; rw [if_pos h] at this; exact this
      go_wp2_with fail
      go_meet
      case rel => exact ⟨by rw [HH2.out], rfl⟩
    · have h1 : ¬ (A : Int) < (B : Int) := by omega
      have HH2 : Hid (A = n) := by have := HNN.out; rw [if_neg h] at this; exact this
      go_wp2_with fail
      go_meet
      case rel => exact ⟨by rw [HH2.out], rfl⟩
  case rest =>
    obtain ⟨rfl, rfl⟩ := hcut
    go_wp2_with (refine make_w rfl _ _ rfl n (by have := HB.out; omega) rfl rfl ?_; intro sb w3 hsb S0 k3)
    have HSB : Hid (w.heap.size ≤ sb) := by have := C.size; show w.heap.size ≤ sb; omega
    have HKS : Hid (¬ kb ∈ [sb]) := by have := Bk.lt; show ¬ kb ∈ [sb]; simp; omega
    replace C := C.trans1 k3
    replace Bk := Bk.chg k3 (by simp)
    have S1 : Sb w3 sb n (s1 a 0) := S0.congr (fun j _ => (if_neg (by omega)).symm)
    clear k3 S0 hsb HNN
    go_loopw [11] (fun t11 wr => ∃ i : Nat, i ≤ A ∧ t11 = .int .i64 (i : Int) ∧ Sb wr sb n (s1 a i) ∧ Blk wr kb (feC t) 24 ∧ Chg w wr []) (fun t11 _ => (A - intOf t11).toNat)
    case atStart => exact ⟨0, Nat.zero_le _, rfl, S1, Bk, C⟩
    case round =>
      clear S1 Bk C
      obtain ⟨i, hi, rfl, S, Bk, C⟩ := hrel
      by_cases h : i < A
      · have hI : (i : Int) < (A : Int) := by omega
        have hIn : (i : Int) < (n : Int) := by have := HB.out; omega
        have hI0 : (0 : Int) ≤ (i : Int) := by omega
        have e1 : IntKind.i64.wrap ((i : Int) + 1) = (i : Int) + 1 := by have := HB.out; rw [IntKind.wrap_i64]; omega
        have HMs : Hid _ := mN A i h
        have HI : Hid (i < A) := h
        have HIn : Hid (i < n) := by have := HB.out; show i < n; omega
        obtain ⟨gp, o, rfl, hg, hF⟩ := HPa.out i h
        have hF' := rangeAt_chg hF hg C (by simp)
        have HGL : Hid (gp < wr.heap.size) := Nat.lt_of_lt_of_le hg C.size
        have HGS : Hid (¬ gp ∈ [sb]) := by have := HSB.out; show ¬ gp ∈ [sb]; simp; omega
        have HRa : Hid (R256 ((a i : Nat) : Int)) := HRa.out i h
        have HS0 : Hid (s1 a i i = 0) := s1_at a i
        clear hF hg h hi
        go_wp2_with fail
        refine wp_region_held_drew (S := fun w' => Chg wr w' [sb]) (by kernel_rfl) ((Chg.refl wr _).drew) (fun hHeld => ?_)
        replace S : Sb wr.drew sb n (s1 a i) := S
        replace C := C.drew
        refine take_val (v := ?_) 0 (some 38) rfl (by kernel_rfl) (by kernel_rfl) (by kernel_rfl) (fun _ _ _ h => h) rfl rfl (fun w hSw => ?_) hHeld ?_
        rotate_left
        · (go_simp; try with_reducible rfl)
        try simp only [Act.put, List.setIfInBounds_toArray, List.set_cons_zero, List.set_cons_succ]
        refine take_val (v := ?_) 1 (some 39) rfl (by kernel_rfl) (by kernel_rfl) (by kernel_rfl) (fun _ _ _ h => h) rfl rfl (fun w hSw => ?_) hHeld ?_
        rotate_left
        · (go_simp; try with_reducible rfl)
        try simp only [Act.put, List.setIfInBounds_toArray, List.set_cons_zero, List.set_cons_succ]
        refine take_val (v := ?_) 2 (some 40) rfl (by kernel_rfl) (by kernel_rfl) (by kernel_rfl) (fun _ _ _ h => h) rfl rfl (fun w hSw => ?_) hHeld ?_
        rotate_left
        · (go_simp; try with_reducible rfl)
        try simp only [Act.put, List.setIfInBounds_toArray, List.set_cons_zero, List.set_cons_succ]
        refine take_val (v := ?_) 3 (some 41) rfl (by kernel_rfl) (by kernel_rfl) (by kernel_rfl) (fun _ _ _ h => h) rfl rfl (fun w hSw => ?_) hHeld ?_
        rotate_left
        · (go_simp; try with_reducible rfl)
        try simp only [Act.put, List.setIfInBounds_toArray, List.set_cons_zero, List.set_cons_succ]
        refine take_val (v := ?_) 4 (some 42) rfl (by kernel_rfl) (by kernel_rfl) (by kernel_rfl) (fun _ _ _ h => h) rfl rfl (fun w hSw => ?_) hHeld ?_
        rotate_left
        · (go_simp; try with_reducible rfl)
        try simp only [Act.put, List.setIfInBounds_toArray, List.set_cons_zero, List.set_cons_succ]
        refine take_val (v := ?_) 6 (some 44) rfl (by kernel_rfl) (by kernel_rfl) (by kernel_rfl) (fun _ _ _ h => h) rfl rfl (fun w hSw => ?_) hHeld ?_
        rotate_left
        · (go_simp; try with_reducible rfl)
        try simp only [Act.put, List.setIfInBounds_toArray, List.set_cons_zero, List.set_cons_succ]
        refine take_val (v := ?_) 7 (some 45) rfl (by kernel_rfl) (by kernel_rfl) (by kernel_rfl) (fun _ _ _ h => h) rfl rfl (fun w hSw => ?_) hHeld ?_
        rotate_left
        · (go_simp; try with_reducible rfl)
        try simp only [Act.put, List.setIfInBounds_toArray, List.set_cons_zero, List.set_cons_succ]
        refine take_val (v := ?_) 8 (some 46) rfl (by kernel_rfl) (by kernel_rfl) (by kernel_rfl) (fun _ _ _ h => h) rfl rfl (fun w hSw => ?_) hHeld ?_
        rotate_left
        · (go_simp; try with_reducible rfl)
        try simp only [Act.put, List.setIfInBounds_toArray, List.set_cons_zero, List.set_cons_succ]
        refine take_val (v := (.agg (feC ((a i : Nat) : Int)))) 9 (some 47) rfl (by kernel_rfl) (by kernel_rfl) (by kernel_rfl) (fun _ _ _ h => h) rfl rfl (fun w hSw => ?_) hHeld ?_
        · exact exec_load_m w 24 _ rfl gp (o + i * 32) rfl (feL ((a i : Nat) : Int)) _ (rangeAt_chg hF' HGL.out hSw HGS.out) Try.underlying24 rfl feInfo
        try simp only [Act.put, List.setIfInBounds_toArray, List.set_cons_zero, List.set_cons_succ]
        refine wpAnyH_ready (rs := [5]) (by kernel_rfl) (by simp) ?_
        refine AllReadyH.cons (o := _) rfl (fun K hK => ?_) ?_
        ·
          rw [if_pos (by rfl)]
          refine wp_load_mid 24 _ rfl sb (i * 32) rfl (feL (0)) _ (HS0.out ▸ S.range HIn.out) Try.underlying24 rfl feInfo ?_
          refine hK.out _ _ (hHeld) (fun hHeld => ?_)
          clear hK K
          try simp only [Act.put, List.setIfInBounds_toArray, List.set_cons_zero, List.set_cons_succ]
          refine wpAnyH_ready (rs := [10]) (by kernel_rfl) (by simp) ?_
          refine AllReadyH.cons (o := _) rfl (fun K hK => ?_) ?_
          ·
            go_simp
            refine (Add_q _ _ r256_c0 HRa.out _).mono ?_
            rintro e w5 ⟨rfl, k⟩
            replace S := S.chg k (by simp)
            replace C := C.trans1 k
            go_wp2_with fail
            refine hK.out _ _ (hHeld.trans1 k.wide) (fun hHeld => ?_)
            clear hK K
            try simp only [Act.put, List.setIfInBounds_toArray, List.set_cons_zero, List.set_cons_succ]
            clear k
            refine take_val (v := ?_) 11 (some 49) rfl (by kernel_rfl) (by kernel_rfl) (by kernel_rfl) (fun _ _ _ h => h) rfl rfl (fun w hSw => ?_) hHeld ?_
            rotate_left
            · (go_simp; try with_reducible rfl)
            try simp only [Act.put, List.setIfInBounds_toArray, List.set_cons_zero, List.set_cons_succ]
            refine wpAnyH_ready (rs := [12]) (by kernel_rfl) (by simp) ?_
            refine AllReadyH.cons (o := _) rfl (fun K hK => ?_) ?_
            ·
              rw [if_pos (by rfl)]
              refine wp_store_sb _ _ rfl sb n i _ _ rfl rfl S HIn.out ?_
              intro w6 S6 k6
              refine hK.out _ _ (hHeld.trans1 k6) (fun hHeld => ?_)
              clear hK K
              try simp only [Act.put, List.setIfInBounds_toArray, List.set_cons_zero, List.set_cons_succ]
              refine wpAnyH_done (by kernel_rfl) ?_ _
              replace C := C.new k6 HSB.out
              replace Bk := Bk.chg hHeld HKS.out
              clear S k6 hHeld
              go_wp2_with fail
              go_roundw
              case rel => exact ⟨i + 1, HI.out, by go_num, S6.congr (fun j _ => s1_step a i j), Bk, C⟩
              case measure => exact HMs.out
            exact AllReadyH.nil
          exact AllReadyH.nil
        exact AllReadyH.nil
      · obtain rfl : A = i := by omega
        have hI : ¬ (A : Int) < (A : Int) := by omega
        have S1 : Sb wr sb n (mq (s1 a A) (s2 a b A t) 0) := S.congr (fun j _ => (if_neg (by omega)).symm)
        clear h hi S
        go_wp2_with fail
        go_loopw [12] (fun t12 wr => ∃ i : Nat, i ≤ B ∧ t12 = .int .i64 (i : Int) ∧ Sb wr sb n (mq (s1 a A) (s2 a b A t) i) ∧ Blk wr kb (feC t) 24 ∧ Chg w wr []) (fun t12 _ => (B - intOf t12).toNat)
        case atStart => exact ⟨0, Nat.zero_le _, rfl, S1, Bk, C⟩
        case round =>
          clear S1 Bk C
          obtain ⟨i, hi, rfl, S, Bk, C⟩ := hrel
          by_cases h : i < B
          · have hJ : (i : Int) < (B : Int) := by omega
            have hIn : (i : Int) < (n : Int) := by have := HB.out; omega
            have hI0 : (0 : Int) ≤ (i : Int) := by omega
            have e1 : IntKind.i64.wrap ((i : Int) + 1) = (i : Int) + 1 := by have := HB.out; rw [IntKind.wrap_i64]; omega
            have HMs : Hid _ := mN B i h
            have HI : Hid (i < B) := h
            have HIn : Hid (i < n) := by have := HB.out; show i < n; omega
            obtain ⟨gp, o, rfl, hg, hF⟩ := HPb.out i h
            have hF' := rangeAt_chg hF hg C (by simp)
            have HGL : Hid (gp < wr.heap.size) := Nat.lt_of_lt_of_le hg C.size
            have HGS : Hid (¬ gp ∈ [sb]) := by have := HSB.out; show ¬ gp ∈ [sb]; simp; omega
            have HRb : Hid (R256 ((b i : Nat) : Int)) := HRb.out i h
            have HRs : Hid (R256 (s1 a A i)) := s1_r a A i
            have HMQ : Hid (mq (s1 a A) (s2 a b A t) i i = s1 a A i) := mq_at _ _ i
            clear hF hg h hi
            go_wp2_with fail
            refine wp_region_held_drew (S := fun w' => Chg wr w' [sb]) (by kernel_rfl) ((Chg.refl wr _).drew) (fun hHeld => ?_)
            replace S : Sb wr.drew sb n (mq (s1 a A) (s2 a b A t) i) := S
            replace C := C.drew
            refine take_val (v := ?_) 0 (some 56) rfl (by kernel_rfl) (by kernel_rfl) (by kernel_rfl) (fun _ _ _ h => h) rfl rfl (fun w hSw => ?_) hHeld ?_
            rotate_left
            · (go_simp; try with_reducible rfl)
            try simp only [Act.put, List.setIfInBounds_toArray, List.set_cons_zero, List.set_cons_succ]
            refine take_val (v := ?_) 1 (some 57) rfl (by kernel_rfl) (by kernel_rfl) (by kernel_rfl) (fun _ _ _ h => h) rfl rfl (fun w hSw => ?_) hHeld ?_
            rotate_left
            · (go_simp; try with_reducible rfl)
            try simp only [Act.put, List.setIfInBounds_toArray, List.set_cons_zero, List.set_cons_succ]
            refine take_val (v := ?_) 2 (some 58) rfl (by kernel_rfl) (by kernel_rfl) (by kernel_rfl) (fun _ _ _ h => h) rfl rfl (fun w hSw => ?_) hHeld ?_
            rotate_left
            · (go_simp; try with_reducible rfl)
            try simp only [Act.put, List.setIfInBounds_toArray, List.set_cons_zero, List.set_cons_succ]
            refine take_val (v := ?_) 3 (some 59) rfl (by kernel_rfl) (by kernel_rfl) (by kernel_rfl) (fun _ _ _ h => h) rfl rfl (fun w hSw => ?_) hHeld ?_
            rotate_left
            · (go_simp; try with_reducible rfl)
            try simp only [Act.put, List.setIfInBounds_toArray, List.set_cons_zero, List.set_cons_succ]
            refine take_val (v := ?_) 4 (some 60) rfl (by kernel_rfl) (by kernel_rfl) (by kernel_rfl) (fun _ _ _ h => h) rfl rfl (fun w hSw => ?_) hHeld ?_
            rotate_left
            · (go_simp; try with_reducible rfl)
            try simp only [Act.put, List.setIfInBounds_toArray, List.set_cons_zero, List.set_cons_succ]
            refine take_load 6 (some 62) (feC t) rfl (by kernel_rfl) (by kernel_rfl) (by kernel_rfl) (fun _ _ _ h => h) rfl rfl 24 _ rfl kb rfl 24 _ (fun w h => Bk.chg h HKS.out) Try.underlying24 rfl (by first | exact feInfo | kernel_rfl) hHeld ?_
            try simp only [Act.put, List.setIfInBounds_toArray, List.set_cons_zero, List.set_cons_succ]
            refine take_val (v := ?_) 7 (some 63) rfl (by kernel_rfl) (by kernel_rfl) (by kernel_rfl) (fun _ _ _ h => h) rfl rfl (fun w hSw => ?_) hHeld ?_
            rotate_left
            · (go_simp; try with_reducible rfl)
            try simp only [Act.put, List.setIfInBounds_toArray, List.set_cons_zero, List.set_cons_succ]
            refine take_val (v := ?_) 8 (some 64) rfl (by kernel_rfl) (by kernel_rfl) (by kernel_rfl) (fun _ _ _ h => h) rfl rfl (fun w hSw => ?_) hHeld ?_
            rotate_left
            · (go_simp; try with_reducible rfl)
            try simp only [Act.put, List.setIfInBounds_toArray, List.set_cons_zero, List.set_cons_succ]
            refine take_val (v := ?_) 9 (some 65) rfl (by kernel_rfl) (by kernel_rfl) (by kernel_rfl) (fun _ _ _ h => h) rfl rfl (fun w hSw => ?_) hHeld ?_
            rotate_left
            · (go_simp; try with_reducible rfl)
            try simp only [Act.put, List.setIfInBounds_toArray, List.set_cons_zero, List.set_cons_succ]
            refine take_val (v := (.agg (feC ((b i : Nat) : Int)))) 10 (some 66) rfl (by kernel_rfl) (by kernel_rfl) (by kernel_rfl) (fun _ _ _ h => h) rfl rfl (fun w hSw => ?_) hHeld ?_
            · exact exec_load_m w 24 _ rfl gp (o + i * 32) rfl (feL ((b i : Nat) : Int)) _ (rangeAt_chg hF' HGL.out hSw HGS.out) Try.underlying24 rfl feInfo
            try simp only [Act.put, List.setIfInBounds_toArray, List.set_cons_zero, List.set_cons_succ]
            refine wpAnyH_ready (rs := [5, 11]) (by kernel_rfl) (by simp) ?_
            refine AllReadyH.cons (o := _) rfl (fun K hK => ?_) ?_
            ·
              rw [if_pos (by rfl)]
              refine wp_load_mid 24 _ rfl sb (i * 32) rfl (feL (s1 a A i)) _ (HMQ.out ▸ S.range HIn.out) Try.underlying24 rfl feInfo ?_
              refine hK.out _ _ (hHeld) (fun hHeld => ?_)
              clear hK K
              try simp only [Act.put, List.setIfInBounds_toArray, List.set_cons_zero, List.set_cons_succ]
              refine wpAnyH_ready (rs := [11]) (by kernel_rfl) (by simp) ?_
              refine AllReadyH.cons (o := _) rfl (fun K hK => ?_) ?_
              ·
                go_simp
                refine (Mul_q t _ HRt.out HRb.out _).mono ?_
                rintro e w5 ⟨rfl, k⟩
                replace S := S.chg k (by simp)
                replace C := C.trans1 k
                go_wp2_with fail
                refine hK.out _ _ (hHeld.trans1 k.wide) (fun hHeld => ?_)
                clear hK K
                try simp only [Act.put, List.setIfInBounds_toArray, List.set_cons_zero, List.set_cons_succ]
                clear k
                refine wpAnyH_ready (rs := [12]) (by kernel_rfl) (by simp) ?_
                refine AllReadyH.cons (o := _) rfl (fun K hK => ?_) ?_
                ·
                  go_simp
                  refine (Add_q _ _ HRs.out (r256_mod _) _).mono ?_
                  rintro e w5 ⟨rfl, k⟩
                  replace S := S.chg k (by simp)
                  replace C := C.trans1 k
                  go_wp2_with fail
                  refine hK.out _ _ (hHeld.trans1 k.wide) (fun hHeld => ?_)
                  clear hK K
                  try simp only [Act.put, List.setIfInBounds_toArray, List.set_cons_zero, List.set_cons_succ]
                  clear k
                  refine take_val (v := ?_) 13 (some 69) rfl (by kernel_rfl) (by kernel_rfl) (by kernel_rfl) (fun _ _ _ h => h) rfl rfl (fun w hSw => ?_) hHeld ?_
                  rotate_left
                  · (go_simp; try with_reducible rfl)
                  try simp only [Act.put, List.setIfInBounds_toArray, List.set_cons_zero, List.set_cons_succ]
                  refine wpAnyH_ready (rs := [14]) (by kernel_rfl) (by simp) ?_
                  refine AllReadyH.cons (o := _) rfl (fun K hK => ?_) ?_
                  ·
                    rw [if_pos (by rfl)]
                    refine wp_store_sb _ _ rfl sb n i _ _ rfl rfl S HIn.out ?_
                    intro w6 S6 k6
                    refine hK.out _ _ (hHeld.trans1 k6) (fun hHeld => ?_)
                    clear hK K
                    try simp only [Act.put, List.setIfInBounds_toArray, List.set_cons_zero, List.set_cons_succ]
                    refine wpAnyH_done (by kernel_rfl) ?_ _
                    replace C := C.new k6 HSB.out
                    replace Bk := Bk.chg hHeld HKS.out
                    clear S k6 hHeld
                    go_wp2_with fail
                    go_roundw
                    case rel => exact ⟨i + 1, HI.out, by go_num, S6.congr (fun j _ => mq_step _ _ i j), Bk, C⟩
                    case measure => exact HMs.out
                  exact AllReadyH.nil
                exact AllReadyH.nil
              exact AllReadyH.nil
            refine AllReadyH.cons (o := _) rfl (fun K hK => ?_) ?_
            ·
              go_simp
              refine (Mul_q t _ HRt.out HRb.out _).mono ?_
              rintro e w5 ⟨rfl, k⟩
              replace S := S.chg k (by simp)
              replace C := C.trans1 k
              go_wp2_with fail
              refine hK.out _ _ (hHeld.trans1 k.wide) (fun hHeld => ?_)
              clear hK K
              try simp only [Act.put, List.setIfInBounds_toArray, List.set_cons_zero, List.set_cons_succ]
              clear k
              refine wpAnyH_ready (rs := [5]) (by kernel_rfl) (by simp) ?_
              refine AllReadyH.cons (o := _) rfl (fun K hK => ?_) ?_
              ·
                rw [if_pos (by rfl)]
                refine wp_load_mid 24 _ rfl sb (i * 32) rfl (feL (s1 a A i)) _ (HMQ.out ▸ S.range HIn.out) Try.underlying24 rfl feInfo ?_
                refine hK.out _ _ (hHeld) (fun hHeld => ?_)
                clear hK K
                try simp only [Act.put, List.setIfInBounds_toArray, List.set_cons_zero, List.set_cons_succ]
                refine wpAnyH_ready (rs := [12]) (by kernel_rfl) (by simp) ?_
                refine AllReadyH.cons (o := _) rfl (fun K hK => ?_) ?_
                ·
                  go_simp
                  refine (Add_q _ _ HRs.out (r256_mod _) _).mono ?_
                  rintro e w5 ⟨rfl, k⟩
                  replace S := S.chg k (by simp)
                  replace C := C.trans1 k
                  go_wp2_with fail
                  refine hK.out _ _ (hHeld.trans1 k.wide) (fun hHeld => ?_)
                  clear hK K
                  try simp only [Act.put, List.setIfInBounds_toArray, List.set_cons_zero, List.set_cons_succ]
                  clear k
                  refine take_val (v := ?_) 13 (some 69) rfl (by kernel_rfl) (by kernel_rfl) (by kernel_rfl) (fun _ _ _ h => h) rfl rfl (fun w hSw => ?_) hHeld ?_
                  rotate_left
                  · (go_simp; try with_reducible rfl)
                  try simp only [Act.put, List.setIfInBounds_toArray, List.set_cons_zero, List.set_cons_succ]
                  refine wpAnyH_ready (rs := [14]) (by kernel_rfl) (by simp) ?_
                  refine AllReadyH.cons (o := _) rfl (fun K hK => ?_) ?_
                  ·
                    rw [if_pos (by rfl)]
                    refine wp_store_sb _ _ rfl sb n i _ _ rfl rfl S HIn.out ?_
                    intro w6 S6 k6
                    refine hK.out _ _ (hHeld.trans1 k6) (fun hHeld => ?_)
                    clear hK K
                    try simp only [Act.put, List.setIfInBounds_toArray, List.set_cons_zero, List.set_cons_succ]
                    refine wpAnyH_done (by kernel_rfl) ?_ _
                    replace C := C.new k6 HSB.out
                    replace Bk := Bk.chg hHeld HKS.out
                    clear S k6 hHeld
                    go_wp2_with fail
                    go_roundw
                    case rel => exact ⟨i + 1, HI.out, by go_num, S6.congr (fun j _ => mq_step _ _ i j), Bk, C⟩
                    case measure => exact HMs.out
                  exact AllReadyH.nil
                exact AllReadyH.nil
              exact AllReadyH.nil
            exact AllReadyH.nil
          · obtain rfl : B = i := by omega
            have hJ : ¬ (B : Int) < (B : Int) := by omega
            have LS : Hid (Ls wr (.slice (some ⟨sb, 0, none⟩) n n) n (nT (s3 a b A B t))) := S.ls (by have := HB.out; omega) (fun j _ => s3_r a b A B t j) (Nat.le_refl _)
            clear h hi S
            go_wp2_with fail
            refine (Split_s _ _ A a (by have := HB.out; omega) N d HB.out.2.2.1 wr (HLa.out.chg0 C) (HLi.out.chg C)).mono ?_
            rintro e w4 ⟨P1, k⟩
            replace C := C.trans1 k
            replace Bk := Bk.chg k (by simp)
            have LS4 : Hid (Ls w4 (.slice (some ⟨sb, 0, none⟩) n n) n (nT (s3 a b A B t))) := LS.out.chg0 k
            clear k LS
            by_cases h0 : idR d N = 0
            · rcases P1 with ⟨hbad, _⟩ | ⟨_, xg, _, rfl, Hx⟩
              · exact absurd h0 hbad
              have HZ : Hid (idR d N = 0) := h0
              clear h0
              go_wp2_with fail
              refine (Split_s _ _ B b (by have := HB.out; omega) N d HB.out.2.2.1 w4 (HLb.out.chg0 C) (HLi.out.chg C)).mono ?_
              rintro e w5 ⟨P1, k⟩
              replace C := C.trans1 k
              replace Bk := Bk.chg k (by simp)
              replace Hx := Hx.chg k (by simp)
              have LS5 : Hid (Ls w5 (.slice (some ⟨sb, 0, none⟩) n n) n (nT (s3 a b A B t))) := LS4.out.chg0 k
              rcases P1 with ⟨hbad, _⟩ | ⟨_, yg, _, rfl, Hy⟩
              · exact absurd HZ.out hbad
              clear k LS4
              go_wp2_with fail
              refine (Split_s _ _ n (nT (s3 a b A B t)) (by have := HB.out; omega) N d HB.out.2.2.1 w5 LS5.out (HLi.out.chg C)).mono ?_
              rintro e w6 ⟨P1, k⟩
              replace C := C.trans1 k
              replace Bk := Bk.chg k (by simp)
              replace Hx := Hx.chg k (by simp)
              replace Hy := Hy.chg k (by simp)
              rcases P1 with ⟨hbad, _⟩ | ⟨_, zg, _, rfl, Hz⟩
              · exact absurd HZ.out hbad
              clear k LS5
              have HE : Hid (∀ i, ad (ev a (d i) 0 A) (ml t (ev b (d i) 0 B)) = ev (nT (s3 a b A B t)) (d i) 0 n) := fun i => ev_sum a b (nT (s3 a b A B t)) A B n t (d i) HB.out.2.2.2.1 HB.out.2.2.2.2.1 (fun j _ => s3_mod a b A B t j)
              obtain ⟨xf, hxf⟩ : ∃ xf, (fun i => ev a (d i) 0 A) = xf := ⟨_, rfl⟩
              obtain ⟨yf, hyf⟩ : ∃ yf, (fun i => ev b (d i) 0 B) = yf := ⟨_, rfl⟩
              obtain ⟨zf, hzf⟩ : ∃ zf, (fun i => ev (nT (s3 a b A B t)) (d i) 0 n) = zf := ⟨_, rfl⟩
              rw [hxf] at Hx
              rw [hyf] at Hy
              rw [hzf] at Hz
              have HE2 : Hid (∀ i, ad (xf i) (ml t (yf i)) = zf i) := by rw [← hxf, ← hyf, ← hzf]; exact HE
              have HXR : Hid (∀ i, R256 (xf i) ∧ R256 (yf i)) := by rw [← hxf, ← hyf]; exact fun i => ⟨r256_rl (ev_rl _ _ _ _), r256_rl (ev_rl _ _ _ _)⟩
              clear hxf hyf hzf HE
              have HNl : Hid (N ≤ 255) := idE_len (idR_zero HZ.out).1
              go_wp2_with fail
              go_loopw [19] (fun t19 wr => ∃ i : Nat, i ≤ N ∧ t19 = .int .i64 (i : Int) ∧ Hb wr xg N d xf ∧ Hb wr yg N d yf ∧ Hb wr zg N d zf ∧ Blk wr kb (feC t) 24 ∧ Chg w wr []) (fun t19 _ => (N - intOf t19).toNat)
              case atStart => exact ⟨0, Nat.zero_le _, rfl, Hx, Hy, Hz, Bk, C⟩
              case round =>
                clear Hx Hy Hz Bk C
                obtain ⟨i, hi, rfl, Hx, Hy, Hz, Bk, C⟩ := hrel
                by_cases h : i < N
                · have hK : (i : Int) < (N : Int) := by omega
                  have hK0 : (0 : Int) ≤ (i : Int) := by omega
                  have e1 : IntKind.i64.wrap ((i : Int) + 1) = (i : Int) + 1 := by have := HNl.out; rw [IntKind.wrap_i64]; omega
                  have HMs : Hid _ := mN N i h
                  have HI : Hid (i < N) := h
                  obtain ⟨gp, o, rfl, hg, hF⟩ := HPi.out i h
                  have hF' := cell_chg hF hg C (by simp)
                  have HGL : Hid (gp < wr.heap.size) := Nat.lt_of_lt_of_le hg C.size
                  have HRx : Hid (R256 (xf i)) := (HXR.out i).1
                  have HRy : Hid (R256 (yf i)) := (HXR.out i).2
                  have HEQ : Hid (ad (xf i) (ml t (yf i)) = zf i) := HE2.out i
                  clear hF hg h hi
                  go_wp2_with fail
                  refine wp_region_held_drew (S := fun w' => Chg wr w' []) (by kernel_rfl) ((Chg.refl wr _).drew) (fun hHeld => ?_)
                  refine take_val (v := ?_) 0 (some 116) rfl (by kernel_rfl) (by kernel_rfl) (by kernel_rfl) (fun _ _ _ h => h) rfl rfl (fun w hSw => ?_) hHeld ?_
                  rotate_left
                  · (go_simp; try with_reducible rfl)
                  try simp only [Act.put, List.setIfInBounds_toArray, List.set_cons_zero, List.set_cons_succ]
                  refine take_val (v := ?_) 1 (some 117) rfl (by kernel_rfl) (by kernel_rfl) (by kernel_rfl) (fun _ _ _ h => h) rfl rfl (fun w hSw => ?_) hHeld ?_
                  rotate_left
                  · (go_simp; try with_reducible rfl)
                  try simp only [Act.put, List.setIfInBounds_toArray, List.set_cons_zero, List.set_cons_succ]
                  refine take_val (v := ?_) 2 (some 118) rfl (by kernel_rfl) (by kernel_rfl) (by kernel_rfl) (fun _ _ _ h => h) rfl rfl (fun w hSw => ?_) hHeld ?_
                  rotate_left
                  · (go_simp; try with_reducible rfl)
                  try simp only [Act.put, List.setIfInBounds_toArray, List.set_cons_zero, List.set_cons_succ]
                  refine take_val (v := ?_) 3 (some 119) rfl (by kernel_rfl) (by kernel_rfl) (by kernel_rfl) (fun _ _ _ h => h) rfl rfl (fun w hSw => ?_) hHeld ?_
                  rotate_left
                  · (go_simp; try with_reducible rfl)
                  try simp only [Act.put, List.setIfInBounds_toArray, List.set_cons_zero, List.set_cons_succ]
                  refine take_val (v := (.agg (feC (zf i)))) 4 (some 120) rfl (by kernel_rfl) (by kernel_rfl) (by kernel_rfl) (fun _ _ _ h => h) rfl rfl (fun w hSw => ?_) hHeld ?_
                  · exact exec_load_m w 24 _ rfl zg (i * 33 + 1) rfl (feL (zf i)) _ (hb_vr (Hz.chg hSw (by simp)) HI.out) Try.underlying24 rfl feInfo
                  try simp only [Act.put, List.setIfInBounds_toArray, List.set_cons_zero, List.set_cons_succ]
                  refine take_val (v := ?_) 5 (some 121) rfl (by kernel_rfl) (by kernel_rfl) (by kernel_rfl) (fun _ _ _ h => h) rfl rfl (fun w hSw => ?_) hHeld ?_
                  rotate_left
                  · (go_simp; try with_reducible rfl)
                  try simp only [Act.put, List.setIfInBounds_toArray, List.set_cons_zero, List.set_cons_succ]
                  refine take_val (v := ?_) 6 (some 122) rfl (by kernel_rfl) (by kernel_rfl) (by kernel_rfl) (fun _ _ _ h => h) rfl rfl (fun w hSw => ?_) hHeld ?_
                  rotate_left
                  · (go_simp; try with_reducible rfl)
                  try simp only [Act.put, List.setIfInBounds_toArray, List.set_cons_zero, List.set_cons_succ]
                  refine take_val (v := ?_) 7 (some 123) rfl (by kernel_rfl) (by kernel_rfl) (by kernel_rfl) (fun _ _ _ h => h) rfl rfl (fun w hSw => ?_) hHeld ?_
                  rotate_left
                  · (go_simp; try with_reducible rfl)
                  try simp only [Act.put, List.setIfInBounds_toArray, List.set_cons_zero, List.set_cons_succ]
                  refine take_val (v := ?_) 8 (some 124) rfl (by kernel_rfl) (by kernel_rfl) (by kernel_rfl) (fun _ _ _ h => h) rfl rfl (fun w hSw => ?_) hHeld ?_
                  rotate_left
                  · (go_simp; try with_reducible rfl)
                  try simp only [Act.put, List.setIfInBounds_toArray, List.set_cons_zero, List.set_cons_succ]
                  refine take_val (v := (.agg (feC (xf i)))) 9 (some 125) rfl (by kernel_rfl) (by kernel_rfl) (by kernel_rfl) (fun _ _ _ h => h) rfl rfl (fun w hSw => ?_) hHeld ?_
                  · exact exec_load_m w 24 _ rfl xg (i * 33 + 1) rfl (feL (xf i)) _ (hb_vr (Hx.chg hSw (by simp)) HI.out) Try.underlying24 rfl feInfo
                  try simp only [Act.put, List.setIfInBounds_toArray, List.set_cons_zero, List.set_cons_succ]
                  refine take_load 10 (some 126) (feC t) rfl (by kernel_rfl) (by kernel_rfl) (by kernel_rfl) (fun _ _ _ h => h) rfl rfl 24 _ rfl kb rfl 24 _ (fun w h => Bk.chg h (by simp)) Try.underlying24 rfl (by first | exact feInfo | kernel_rfl) hHeld ?_
                  try simp only [Act.put, List.setIfInBounds_toArray, List.set_cons_zero, List.set_cons_succ]
                  refine take_val (v := ?_) 11 (some 127) rfl (by kernel_rfl) (by kernel_rfl) (by kernel_rfl) (fun _ _ _ h => h) rfl rfl (fun w hSw => ?_) hHeld ?_
                  rotate_left
                  · (go_simp; try with_reducible rfl)
                  try simp only [Act.put, List.setIfInBounds_toArray, List.set_cons_zero, List.set_cons_succ]
                  refine take_val (v := ?_) 12 (some 128) rfl (by kernel_rfl) (by kernel_rfl) (by kernel_rfl) (fun _ _ _ h => h) rfl rfl (fun w hSw => ?_) hHeld ?_
                  rotate_left
                  · (go_simp; try with_reducible rfl)
                  try simp only [Act.put, List.setIfInBounds_toArray, List.set_cons_zero, List.set_cons_succ]
                  refine take_val (v := ?_) 13 (some 129) rfl (by kernel_rfl) (by kernel_rfl) (by kernel_rfl) (fun _ _ _ h => h) rfl rfl (fun w hSw => ?_) hHeld ?_
                  rotate_left
                  · (go_simp; try with_reducible rfl)
                  try simp only [Act.put, List.setIfInBounds_toArray, List.set_cons_zero, List.set_cons_succ]
                  refine take_val (v := ?_) 14 (some 130) rfl (by kernel_rfl) (by kernel_rfl) (by kernel_rfl) (fun _ _ _ h => h) rfl rfl (fun w hSw => ?_) hHeld ?_
                  rotate_left
                  · (go_simp; try with_reducible rfl)
                  try simp only [Act.put, List.setIfInBounds_toArray, List.set_cons_zero, List.set_cons_succ]
                  refine take_val (v := (.agg (feC (yf i)))) 15 (some 131) rfl (by kernel_rfl) (by kernel_rfl) (by kernel_rfl) (fun _ _ _ h => h) rfl rfl (fun w hSw => ?_) hHeld ?_
                  · exact exec_load_m w 24 _ rfl yg (i * 33 + 1) rfl (feL (yf i)) _ (hb_vr (Hy.chg hSw (by simp)) HI.out) Try.underlying24 rfl feInfo
                  try simp only [Act.put, List.setIfInBounds_toArray, List.set_cons_zero, List.set_cons_succ]
                  refine wpAnyH_ready (rs := [16]) (by kernel_rfl) (by simp) ?_
                  refine AllReadyH.cons (o := _) rfl (fun K hK => ?_) ?_
                  ·
                    go_simp
                    refine (Mul_q t _ HRt.out HRy.out _).mono ?_
                    rintro e w5 ⟨rfl, k⟩
                    go_wp2_with fail
                    refine hK.out _ _ (hHeld.trans1 k) (fun hHeld => ?_)
                    clear hK K
                    try simp only [Act.put, List.setIfInBounds_toArray, List.set_cons_zero, List.set_cons_succ]
                    clear k
                    refine wpAnyH_ready (rs := [17]) (by kernel_rfl) (by simp) ?_
                    refine AllReadyH.cons (o := _) rfl (fun K hK => ?_) ?_
                    ·
                      go_simp
                      refine (Add_qi HRx.out (r256_mod _) HEQ.out _).mono ?_
                      rintro e w5 ⟨rfl, k⟩
                      go_wp2_with fail
                      refine hK.out _ _ (hHeld.trans1 k) (fun hHeld => ?_)
                      clear hK K
                      try simp only [Act.put, List.setIfInBounds_toArray, List.set_cons_zero, List.set_cons_succ]
                      clear k
                      refine take_val (v := (.bool false)) 18 (some 134) rfl (by kernel_rfl) (by kernel_rfl) (by kernel_rfl) (fun _ _ _ h => h) rfl rfl (fun w hSw => ?_) hHeld ?_
                      · (go_simp; try with_reducible rfl)
                      try simp only [Act.put, List.setIfInBounds_toArray, List.set_cons_zero, List.set_cons_succ]
                      refine take_val (v := ?_) 19 (some 135) rfl (by kernel_rfl) (by kernel_rfl) (by kernel_rfl) (fun _ _ _ h => h) rfl rfl (fun w hSw => ?_) hHeld ?_
                      rotate_left
                      · (go_simp; try with_reducible rfl)
                      try simp only [Act.put, List.setIfInBounds_toArray, List.set_cons_zero, List.set_cons_succ]
                      refine take_val (v := ?_) 20 (some 136) rfl (by kernel_rfl) (by kernel_rfl) (by kernel_rfl) (fun _ _ _ h => h) rfl rfl (fun w hSw => ?_) hHeld ?_
                      rotate_left
                      · (go_simp; try with_reducible rfl)
                      try simp only [Act.put, List.setIfInBounds_toArray, List.set_cons_zero, List.set_cons_succ]
                      refine take_val (v := ?_) 21 (some 137) rfl (by kernel_rfl) (by kernel_rfl) (by kernel_rfl) (fun _ _ _ h => h) rfl rfl (fun w hSw => ?_) hHeld ?_
                      rotate_left
                      · (go_simp; try with_reducible rfl)
                      try simp only [Act.put, List.setIfInBounds_toArray, List.set_cons_zero, List.set_cons_succ]
                      refine take_val (v := ?_) 22 (some 138) rfl (by kernel_rfl) (by kernel_rfl) (by kernel_rfl) (fun _ _ _ h => h) rfl rfl (fun w hSw => ?_) hHeld ?_
                      rotate_left
                      · (go_simp; try with_reducible rfl)
                      try simp only [Act.put, List.setIfInBounds_toArray, List.set_cons_zero, List.set_cons_succ]
                      refine take_val (v := ?_) 23 (some 139) rfl (by kernel_rfl) (by kernel_rfl) (by kernel_rfl) (fun _ _ _ h => h) rfl rfl (fun w hSw => ?_) hHeld ?_
                      rotate_left
                      · (go_simp; try with_reducible rfl)
                      try simp only [Act.put, List.setIfInBounds_toArray, List.set_cons_zero, List.set_cons_succ]
                      refine take_val (v := (.int .i64 (d i))) 24 (some 140) rfl (by kernel_rfl) (by kernel_rfl) (by kernel_rfl) (fun _ _ _ h => h) rfl rfl (fun w hSw => ?_) hHeld ?_
                      · have hcc := hb_id (Hz.chg hSw (by simp)) HI.out
                        (go_simp; try with_reducible rfl)
                      try simp only [Act.put, List.setIfInBounds_toArray, List.set_cons_zero, List.set_cons_succ]
                      refine take_val (v := ?_) 25 (some 141) rfl (by kernel_rfl) (by kernel_rfl) (by kernel_rfl) (fun _ _ _ h => h) rfl rfl (fun w hSw => ?_) hHeld ?_
                      rotate_left
                      · (go_simp; try with_reducible rfl)
                      try simp only [Act.put, List.setIfInBounds_toArray, List.set_cons_zero, List.set_cons_succ]
                      refine take_val (v := ?_) 26 (some 142) rfl (by kernel_rfl) (by kernel_rfl) (by kernel_rfl) (fun _ _ _ h => h) rfl rfl (fun w hSw => ?_) hHeld ?_
                      rotate_left
                      · (go_simp; try with_reducible rfl)
                      try simp only [Act.put, List.setIfInBounds_toArray, List.set_cons_zero, List.set_cons_succ]
                      refine take_val (v := ?_) 27 (some 143) rfl (by kernel_rfl) (by kernel_rfl) (by kernel_rfl) (fun _ _ _ h => h) rfl rfl (fun w hSw => ?_) hHeld ?_
                      rotate_left
                      · (go_simp; try with_reducible rfl)
                      try simp only [Act.put, List.setIfInBounds_toArray, List.set_cons_zero, List.set_cons_succ]
                      refine take_val (v := (.int .i64 (d i))) 28 (some 144) rfl (by kernel_rfl) (by kernel_rfl) (by kernel_rfl) (fun _ _ _ h => h) rfl rfl (fun w hSw => ?_) hHeld ?_
                      · have hcc := cell_chg hF' HGL.out hSw (by simp)
                        (go_simp; try with_reducible rfl)
                      try simp only [Act.put, List.setIfInBounds_toArray, List.set_cons_zero, List.set_cons_succ]
                      refine take_val (v := (.bool false)) 29 (some 145) rfl (by kernel_rfl) (by kernel_rfl) (by kernel_rfl) (fun _ _ _ h => h) rfl rfl (fun w hSw => ?_) hHeld ?_
                      · (go_simp; try with_reducible rfl)
                      try simp only [Act.put, List.setIfInBounds_toArray, List.set_cons_zero, List.set_cons_succ]
                      refine take_val (v := (.bool false)) 30 (some 146) rfl (by kernel_rfl) (by kernel_rfl) (by kernel_rfl) (fun _ _ _ h => h) rfl rfl (fun w hSw => ?_) hHeld ?_
                      · (go_simp; try with_reducible rfl)
                      try simp only [Act.put, List.setIfInBounds_toArray, List.set_cons_zero, List.set_cons_succ]
                      refine wpAnyH_done (by kernel_rfl) ?_ _
                      replace C := C.trans1 hHeld
                      replace Hx := Hx.chg hHeld (by simp)
                      replace Hy := Hy.chg hHeld (by simp)
                      replace Hz := Hz.chg hHeld (by simp)
                      replace Bk := Bk.chg hHeld (by simp)
                      clear hHeld
                      go_wp2_with fail
                      go_roundw
                      case rel => exact ⟨i + 1, HI.out, by go_num, Hx, Hy, Hz, Bk, C⟩
                      case measure => exact HMs.out
                    exact AllReadyH.nil
                  exact AllReadyH.nil
                · obtain rfl : N = i := by omega
                  have hK : ¬ (N : Int) < (N : Int) := by omega
                  go_wp2_with fail
                  go_ret
                  exact ⟨rfl, C⟩
            · rcases P1 with ⟨_, rfl⟩ | ⟨hbad, _⟩
              rotate_left
              · exact absurd hbad h0
              have HZ : Hid (¬ idR d N = 0) := h0
              obtain ⟨E, hE⟩ : ∃ E, idR d N = E := ⟨_, rfl⟩
              have HE : Hid (idR d N = E) := hE
              rw [hE]
              clear h0 hE
              go_wp2_with fail
              refine (Split_s _ _ B b (by have := HB.out; omega) N d HB.out.2.2.1 w4 (HLb.out.chg0 C) (HLi.out.chg C)).mono ?_
              rintro e w5 ⟨P1, k⟩
              replace C := C.trans1 k
              have LS5 : Hid (Ls w5 (.slice (some ⟨sb, 0, none⟩) n n) n (nT (s3 a b A B t))) := LS4.out.chg0 k
              rcases P1 with ⟨_, rfl⟩ | ⟨hbad, _⟩
              rotate_left
              · exact absurd hbad HZ.out
              rw [HE.out]
              clear k LS4
              go_wp2_with fail
              refine (Split_s _ _ n (nT (s3 a b A B t)) (by have := HB.out; omega) N d HB.out.2.2.1 w5 LS5.out (HLi.out.chg C)).mono ?_
              rintro e w6 ⟨P1, k⟩
              replace C := C.trans1 k
              rcases P1 with ⟨_, rfl⟩ | ⟨hbad, _⟩
              rotate_left
              · exact absurd hbad HZ.out
              rw [HE.out]
              clear k LS5
              go_wp2_with fail
              go_loopw [19] (fun t19 wr => t19 = .int .i64 0 ∧ Chg w wr []) (fun _ _ => 0)
              case atStart => exact ⟨rfl, C⟩
              case round =>
                obtain ⟨rfl, C⟩ := hrel
                go_wp2_with fail
                go_ret
                exact ⟨rfl, C⟩
end Go.Proofs.Ytmoahgeclmediab
