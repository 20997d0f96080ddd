/- seal: Unbox. -/
import Derived.Test.YtnopkojpgemldaaSeBx
set_option linter.unusedVariables false
set_option linter.unusedSimpArgs false
set_option linter.unnecessarySimpa false
namespace Go.Proofs.Ytnopkojpgemldaa
open Go.RowKit

@[go_sem] theorem eq_nonc (f g : Nat → Nat) (w : World) : (Op.equalIn 10000 25 (.agg (yC 12 f)) (.agg (yC 12 g))).run Try.prog w = .ok (eqn 12 f g) w := by
  obtain ⟨i, hi⟩ := u8InfoZ
  rw [show (10000 : Nat) = 9998 + 1 + 1 from rfl, run_equalIn_array w 9999 _ _ Try.underlying25 hi, u8CellsZ]
  exact eqItems_ints w 9998 Try.underlying5 _ _ (fun i => ((f i : Nat) : Int)) (fun i => ((g i : Nat) : Int)) (List.range 12) (fun j hj => ⟨yC_get 12 f j (by simpa using hj), yC_get 12 g j (by simpa using hj)⟩)
theorem OpQ.parts {w : World} {b : Bool} {N : Nat} {F : Nat → Nat} {e : Ending} {w' : World} (h : OpQ w b N F e w') : ∃ sv ev, e = .returned (.tuple #[sv, .int .i64 ev]) ∧ Chg w w' [] ∧
    ((b = true ∧ ev = 0 ∧ ∃ g, sv = .slice (some ⟨g, 0, none⟩) N N ∧ w.heap.size ≤ g ∧ Blk w' g (yC N F) 5) ∨ (b = false ∧ ev = 121 ∧ sv = .slice none 0 0)) := by
  rcases h with ⟨hb, g, rfl, hg, B, k⟩ | ⟨hb, rfl, k⟩
  · exact ⟨_, _, rfl, k, Or.inl ⟨hb, rfl, g, rfl, hg, B⟩⟩
  · exact ⟨_, _, rfl, k, Or.inr ⟨hb, rfl, rfl⟩⟩
set_option maxHeartbeats 8000000 in
set_option maxRecDepth 100000 in
theorem Unbox_short (k : Nat → Nat) (v0 v1 : Value) (n1 : Nat) (f1 : Nat → Nat) (w : World) (hv1 : Sz w v1 n1 f1) (hs : n1 < 28) :
    Calls Try.prog 22 #[.agg (yC 32 k), v0, v1] w fun e w' => e = .returned (.tuple #[.slice none 0 0, .int .u64 0, .int .i64 3]) ∧ Chg w w' [] := by
  obtain ⟨p1, c1, e1, _⟩ := id hv1
  subst e1
  have hI : (n1 : Int) < 28 := by omega
  clear hv1 hs
  go_enter Try.func22, Try.ntmps22
  go_wp2_with (refine box_w rfl 23 _ rfl (yC 32 k) rfl ?_; intro kb w1 hkb BK k1)
  go_ret3
  exact ⟨rfl, k1⟩
/-- A box's number. -/
def bxN (f : Nat → Nat) : Nat := le8 (fun i => f (4 + i))
/-- Is the nonce its number's? -/
def bxO (f : Nat → Nat) : Bool := eqn 12 f (ncB (bxN f))
/-- What Unbox answers for 28 bytes and more. -/
def UbQ (w : World) (o b : Bool) (N num : Nat) (F : Nat → Nat) (e : Ending) (w' : World) : Prop :=
  (o = false ∧ e = .returned (.tuple #[.slice none 0 0, .int .u64 0, .int .i64 1]) ∧ Chg w w' []) ∨ (o = true ∧ b = false ∧ e = .returned (.tuple #[.slice none 0 0, .int .u64 0, .int .i64 121]) ∧ Chg w w' []) ∨
  (o = true ∧ b = true ∧ ∃ g, e = .returned (.tuple #[.slice (some ⟨g, 0, none⟩) N N, .int .u64 (num : Int), .int .i64 0]) ∧ w.heap.size ≤ g ∧ Blk w' g (yC N F) 5 ∧ Chg w w' [])
set_option maxHeartbeats 8000000 in
set_option maxRecDepth 100000 in
theorem Unbox_s (k : Nat → Nat) (hk : ∀ i, i < 32 → k i < 256) (v0 : Value) (n0 : Nat) (f0 : Nat → Nat) (v1 : Value) (N : Nat) (f : Nat → Nat) (w : World) (hv0 : Sz w v0 n0 f0) (hv1 : Sz w v1 (N + 28) f) (hm : N ≤ 140737488355456) :
    Calls Try.prog 22 #[.agg (yC 32 k), v0, v1] w fun e w' => UbQ w (bxO f) (tagged k f n0 f0 N (fun i => f (12 + i))) N (bxN f) (xo (fun i => f (12 + i)) (ks k 1 f)) e w' := by
  obtain ⟨p1, c, e1, h1, h2, h3⟩ := hv1
  subst e1
  obtain ⟨g, o, rfl, hb⟩ := h3 (by omega)
  have HB : Hid (Bs w g o (N + 28) f ∧ N + 28 ≤ c ∧ c ≤ 9223372036854775807) := ⟨hb, h1, h2⟩
  have HS1 : Hid (Sz w (.slice (some ⟨g, o + 12, none⟩) (N + 16) (c - 12)) (N + 16) (fun i => f (12 + i)) ∧ Sz w v0 n0 f0) := ⟨⟨_, _, rfl, by omega, by omega, fun _ => ⟨g, o + 12, rfl, hb.sub 12 (N + 16) (by omega)⟩⟩, hv0⟩
  have HNB : Hid (∀ i, i < 12 → f i < 256) := fun i hi => hb.bd i (by omega)
  have HOP : Hid (∀ w', Sz w' v0 n0 f0 → Sz w' (.slice (some ⟨g, o + 12, none⟩) (N + 16) (c - 12)) (N + 16) (fun i => f (12 + i)) → Calls Try.prog 11 #[.agg (yC 32 k), .agg (yC 12 f), v0, .slice (some ⟨g, o + 12, none⟩) (N + 16) (c - 12)] w' fun e w'' => OpQ w' (tagged k f n0 f0 N (fun i => f (12 + i))) N (xo (fun i => f (12 + i)) (ks k 1 f)) e w'') := fun w' a b => Open_s k f hk HNB.out v0 n0 f0 _ N (fun i => f (12 + i)) w' a b hm
  have HNM : Hid (bxN f = le8 (fun i => f (4 + i)) ∧ U (bxN f)) := ⟨rfl, le8_lt fun i hi => HNB.out _ (by omega)⟩
  have HOO : Hid (eqn 12 f (ncB (bxN f)) = bxO f) := rfl
  obtain ⟨num, hnum⟩ : ∃ x, bxN f = x := ⟨_, rfl⟩
  rw [hnum] at HNM HOO ⊢
  obtain ⟨ok, hok⟩ : ∃ x, bxO f = x := ⟨_, rfl⟩
  rw [hok] at HOO ⊢
  obtain ⟨b, hbb⟩ : ∃ x, tagged k f n0 f0 N (fun i => f (12 + i)) = x := ⟨_, rfl⟩
  rw [hbb] at HOP ⊢
  obtain ⟨X, hX⟩ : ∃ X, xo (fun i => f (12 + i)) (ks k 1 f) = X := ⟨_, rfl⟩
  rw [hX] at HOP ⊢
  obtain ⟨n, hn⟩ : ∃ n, N + 28 = n := ⟨_, rfl⟩
  obtain ⟨L, hL⟩ : ∃ n, N + 16 = n := ⟨_, rfl⟩
  rw [hn] at HB ⊢
  rw [hL] at HOP HS1
  have hI : ¬ (n : Int) < 28 := by omega
  have i1 : (12 : Int) ≤ (n : Int) := by omega
  have i2 : (n : Int) ≤ (c : Int) := by omega
  have i3 : (12 : Int) ≤ (c : Int) := by omega
  have i4 : ¬ c = 12 := by omega
  have i5 : n - 12 = L := by omega
  have hat := fun w => run_arrayAt (P := Try.prog) w 25 5 12 (some ⟨g, o, none⟩) 12 c Try.underlying25 (Nat.le_refl _)
  have HRG : Hid (w.rangeAt g o (yL 12 f) ∧ g < w.heap.size) := ⟨fun j x hj => by
    obtain ⟨q1, rfl⟩ := yL_some _ _ _ _ hj
    exact hb.cell j (by omega), hb.lt⟩
  clear hk hv0 h1 h2 h3 hb hnum hok hbb hX hn hL hm
  go_enter Try.func22, Try.ntmps22
  go_wp2_with (first
    | (refine store_w BN rfl 25 _ _ (yC 12 f) rfl rfl rfl (by rw [yC_size]; exact nonInfo) (by rw [yC_size, yC_size]) (yC_one 12 _) ?_; intro w3 BN3 k3)
    | (with_reducible refine alloc_w rfl 25 rfl (.agg (yC 12 (fun _ => 0))) zeroNc (yC 12 (fun _ => 0)) rfl ?_; intro nb w2 hnb BN k2)
    | (with_reducible refine load_mm ?_ 25 (.tmp 18) ?_ g o ?_ (yL 12 f) _ ?_ Try.underlying25 ?_ ?_ (yC 12 f) ?_ ?_
       · rfl
       · rfl
       · rfl
       · (intro j x hj; rw [k1.cell g _ HRG.out.2 (by simp)]; exact HRG.out.1 j x hj)
       · rfl
       · (rw [yL_len]; exact nonInfo)
       · rfl)
    | simp only [hat]
    | (refine box_w rfl 23 _ rfl (yC 32 k) rfl ?_; intro kb w1 hkb BK k1))
  have HO : Hid (¬ nb = kb ∧ w.heap.size ≤ nb) := ⟨by have := BK.lt; omega, by have := k1.size; omega⟩
  have K3 : Chg w w3 [] := (k1.trans1 k2).new k3 HO.out.2
  have BK3 := (BK.chg k2 (by simp)).chg k3 (by have := HO.out; simp; omega)
  clear k1 k2 k3 BK BN hkb hnb HRG hat
  have q := long_s nb 4 8 8 (fun i => f (4 + i)) w3 (by omega) (by omega) ⟨BN3.lt, fun i hi => HNB.out _ (by omega), fun i hi => by rw [BN3.cell, yC_get _ _ _ (by omega)]⟩
  rw [← HNM.out.1] at q
  refine q.mono ?_
  clear q
  rintro e w4 ⟨rfl, m4, rfl⟩
  have K4 := K3.drewN m4
  have BK4 := BK3.drewN m4
  have BN4 := BN3.drewN m4
  obtain ⟨w5, hw5⟩ : ∃ z, z = w3.drewN m4 := ⟨_, rfl⟩
  rw [← hw5] at K4 BK4 BN4 ⊢
  clear hw5 K3 BK3 BN3
  go_wp2_with fail
  refine lt_begin (fun w' => Blk w' kb (yC 32 k) 23 ∧ Blk w' nb (yC 12 f) 25) (fun _ => false) (by kernel_rfl) ?_
  have hHeld := And.intro BK4.drew BN4.drew
  replace K4 := K4.drew
  obtain ⟨z, hz⟩ : ∃ z, z = w5.drew := ⟨_, rfl⟩
  rw [← hz] at hHeld K4 ⊢
  clear hz BK4 BN4
  refine lt_read (v := (.agg (yC 12 f))) 0 (some 22) rfl (by kernel_rfl) (by kernel_rfl) (by kernel_rfl) (by kernel_rfl) (fun _ _ _ h => h) rfl rfl (fun w hSw => ?_) hHeld ?_
  · skip; exact (exec_load_b w 25 (.tmp 9) rfl nb rfl hSw.2 Try.underlying25 rfl (by rw [yC_size]; exact nonInfo))
  try simp only [Act.put, List.setIfInBounds_toArray, List.set_cons_zero, List.set_cons_succ]
  refine lt_val (v := ?_) 1 (some 23) rfl (by kernel_rfl) (by kernel_rfl) (by kernel_rfl) (fun _ _ _ h => h) rfl rfl (fun w => ?_) ?_
  rotate_left
  · (go_simp; try with_reducible rfl)
  try simp only [Act.put, List.setIfInBounds_toArray, List.set_cons_zero, List.set_cons_succ]
  refine lt_one 2 rfl (by kernel_rfl) rfl (fun K hK => ?_)
  go_simp
  refine (nonceOf_s num HNM.out.2 z).mono ?_
  rintro e w6 ⟨rfl, k6⟩
  go_wp2_with fail
  refine hK.out _ _ (fun _ h => ⟨h.1.chg k6 (by simp), h.2.chg k6 (by simp)⟩) ?_
  clear hK K
  try simp only [Act.put, List.setIfInBounds_toArray, List.set_cons_zero, List.set_cons_succ]
  refine lt_val (v := ?_) 3 (some 25) rfl (by kernel_rfl) (by kernel_rfl) (by kernel_rfl) (fun _ _ _ h => h) rfl rfl (fun w => ?_) ?_
  rotate_left
  · (go_simp; try with_reducible rfl)
  try simp only [Act.put, List.setIfInBounds_toArray, List.set_cons_zero, List.set_cons_succ]
  refine lt_done (by kernel_rfl) ?_ _
  rw [HOO.out]
  have K6 : Chg w w6 [] := K4.trans1 k6
  have BK6 := hHeld.1.chg k6 (by simp)
  have BN6 := hHeld.2.chg k6 (by simp)
  clear hHeld K4 k6 HOO
  cases ok
  · go_wp2_with fail
    go_ret3
    exact Or.inl ⟨rfl, rfl, K6⟩
  · go_wp2_with fail
    refine lt_begin (fun w' => Blk w' kb (yC 32 k) 23 ∧ Blk w' nb (yC 12 f) 25) (fun _ => false) (by kernel_rfl) ?_
    have hHeld := And.intro BK6.drew BN6.drew
    replace K6 := K6.drew
    obtain ⟨z2, hz⟩ : ∃ z, z = w6.drew := ⟨_, rfl⟩
    rw [← hz] at hHeld K6 ⊢
    clear hz BK6 BN6
    have HZ2 : Hid (w.heap.size ≤ z2.heap.size) := K6.size
    refine lt_read (v := (.agg (yC 32 k))) 0 (some 27) rfl (by kernel_rfl) (by kernel_rfl) (by kernel_rfl) (by kernel_rfl) (fun _ _ _ h => h) rfl rfl (fun w hSw => ?_) hHeld ?_
    · skip; exact (exec_load_b w 23 (.tmp 3) rfl kb rfl hSw.1 Try.underlying23 rfl (by rw [yC_size]; exact keyInfo))
    try simp only [Act.put, List.setIfInBounds_toArray, List.set_cons_zero, List.set_cons_succ]
    refine lt_read (v := (.agg (yC 12 f))) 1 (some 28) rfl (by kernel_rfl) (by kernel_rfl) (by kernel_rfl) (by kernel_rfl) (fun _ _ _ h => h) rfl rfl (fun w hSw => ?_) hHeld ?_
    · skip; exact (exec_load_b w 25 (.tmp 9) rfl nb rfl hSw.2 Try.underlying25 rfl (by rw [yC_size]; exact nonInfo))
    try simp only [Act.put, List.setIfInBounds_toArray, List.set_cons_zero, List.set_cons_succ]
    refine lt_val (v := ?_) 2 (some 29) rfl (by kernel_rfl) (by kernel_rfl) (by kernel_rfl) (fun _ _ _ h => h) rfl rfl (fun w => ?_) ?_
    rotate_left
    · (go_simp; try with_reducible rfl)
    try simp only [Act.put, List.setIfInBounds_toArray, List.set_cons_zero, List.set_cons_succ]
    refine lt_val (v := ?_) 3 (some 30) rfl (by kernel_rfl) (by kernel_rfl) (by kernel_rfl) (fun _ _ _ h => h) rfl rfl (fun w => ?_) ?_
    rotate_left
    · (go_simp; try with_reducible rfl)
    try simp only [Act.put, List.setIfInBounds_toArray, List.set_cons_zero, List.set_cons_succ]
    refine lt_val (v := (.slice (some ⟨g, o + 12, none⟩) L (c - 12))) 4 (some 31) rfl (by kernel_rfl) (by kernel_rfl) (by kernel_rfl) (fun _ _ _ h => h) rfl rfl (fun w => ?_) ?_
    · (go_simp; try with_reducible rfl)
    try simp only [Act.put, List.setIfInBounds_toArray, List.set_cons_zero, List.set_cons_succ]
    refine lt_one 5 rfl (by kernel_rfl) rfl (fun K hK => ?_)
    go_simp
    refine (HOP.out z2 (HS1.out.2.kept K6) (HS1.out.1.kept K6)).mono ?_
    rintro e w7 hq
    obtain ⟨sv, ev, rfl, k7, HQ⟩ := hq.parts
    have HQQ : Hid _ := HQ
    clear HQ hq
    go_wp2_with fail
    refine hK.out _ _ (fun _ h => ⟨h.1.chg k7 (by simp), h.2.chg k7 (by simp)⟩) ?_
    clear hK K
    try simp only [Act.put, List.setIfInBounds_toArray, List.set_cons_zero, List.set_cons_succ]
    refine lt_val (v := ?_) 6 (some 26) rfl (by kernel_rfl) (by kernel_rfl) (by kernel_rfl) (fun _ _ _ h => h) rfl rfl (fun w => ?_) ?_
    rotate_left
    · (go_simp; try with_reducible rfl)
    try simp only [Act.put, List.setIfInBounds_toArray, List.set_cons_zero, List.set_cons_succ]
    refine lt_val (v := ?_) 7 (some 33) rfl (by kernel_rfl) (by kernel_rfl) (by kernel_rfl) (fun _ _ _ h => h) rfl rfl (fun w => ?_) ?_
    rotate_left
    · (go_simp; try with_reducible rfl)
    try simp only [Act.put, List.setIfInBounds_toArray, List.set_cons_zero, List.set_cons_succ]
    refine lt_val (v := ?_) 8 (some 34) rfl (by kernel_rfl) (by kernel_rfl) (by kernel_rfl) (fun _ _ _ h => h) rfl rfl (fun w => ?_) ?_
    rotate_left
    · (go_simp; try with_reducible rfl)
    try simp only [Act.put, List.setIfInBounds_toArray, List.set_cons_zero, List.set_cons_succ]
    refine lt_val (v := ?_) 9 (some 11) rfl (by kernel_rfl) (by kernel_rfl) (by kernel_rfl) (fun _ _ _ h => h) rfl rfl (fun w => ?_) ?_
    rotate_left
    · (go_simp; try with_reducible rfl)
    try simp only [Act.put, List.setIfInBounds_toArray, List.set_cons_zero, List.set_cons_succ]
    refine lt_val (v := ?_) 10 (some 12) rfl (by kernel_rfl) (by kernel_rfl) (by kernel_rfl) (fun _ _ _ h => h) rfl rfl (fun w => ?_) ?_
    rotate_left
    · (go_simp; try with_reducible rfl)
    try simp only [Act.put, List.setIfInBounds_toArray, List.set_cons_zero, List.set_cons_succ]
    refine lt_done (by kernel_rfl) ?_ _
    have K7 : Chg w w7 [] := K6.trans1 k7
    clear hHeld K6 k7
    rcases HQQ.out with ⟨rfl, rfl, g7, rfl, hg7, B7⟩ | ⟨rfl, rfl, rfl⟩
    · clear HQQ
      go_wp2_with fail
      go_ret3
      exact Or.inr (Or.inr ⟨rfl, rfl, g7, rfl, by have := HZ2.out; omega, B7, K7⟩)
    · clear HQQ
      go_wp2_with fail
      go_ret3
      exact Or.inr (Or.inl ⟨rfl, rfl, rfl, K7⟩)
end Go.Proofs.Ytnopkojpgemldaa
