/- drbg: bytes stirred in. -/
import Derived.Test.YthpfdnkcepfbaaaDoorDr3
set_option linter.unusedVariables false
set_option linter.unusedSimpArgs false
set_option linter.unnecessarySimpa false
namespace Go.Proofs.YthpfdnkcepfbaaaDoor
open Go.RowKit

/-- Bytes that do not lie in block g, or an empty slice that points anywhere. -/
def SeO (g : Nat) (w : World) (v : Value) (n : Nat) (f : Nat → Nat) : Prop := (Sl w v n f ∧ Off v [g]) ∨ (n = 0 ∧ ∃ a : Addr, v = .slice (some a) 0 0)
theorem SeO.se {g : Nat} {w : World} {v : Value} {n : Nat} {f : Nat → Nat} (h : SeO g w v n f) : Se w v n f := by
  rcases h with h | h
  · exact Or.inl h.1
  · exact Or.inr h
theorem SeO.chg {g : Nat} {w w' : World} {v : Value} {n : Nat} {f : Nat → Nat} (h : SeO g w v n f) (hc : Chg w w' [g]) : SeO g w' v n f := by
  rcases h with h | h
  · exact Or.inl ⟨h.1.chg hc h.2, h.2⟩
  · exact Or.inr h
theorem Se.seo {g : Nat} {w : World} {v : Value} {n : Nat} {f : Nat → Nat} (h : Se w v n f) (hg : w.heap.size ≤ g) : SeO g w v n f := by
  rcases h with h | h
  · exact Or.inl ⟨h, h.new [g] (by simpa using hg)⟩
  · exact Or.inr h
/-- k slices of bytes, none of them in block g, nor their list. -/
def Pq (g : Nat) (w : World) (v : Value) (k : Nat) (pv : Nat → Value) (pn : Nat → Nat) (pf : Nat → Nat → Nat) : Prop :=
  (∀ i, i < k → SeO g w (pv i) (pn i) (pf i)) ∧ ∃ gl o cap, v = .slice (some ⟨gl, o, none⟩) k cap ∧ k ≤ cap ∧ cap ≤ 9223372036854775807 ∧ gl < w.heap.size ∧ ¬ gl = g ∧ ∀ i, i < k → w.cell? ⟨gl, o + i, none⟩ = some (pv i)
theorem Pq.ps {g : Nat} {w : World} {v : Value} {k : Nat} {pv : Nat → Value} {pn : Nat → Nat} {pf : Nat → Nat → Nat} (h : Pq g w v k pv pn pf) : Ps w v k pv pn pf := by
  obtain ⟨h1, gl, o, cap, e, h2, h3, h4, _, h5⟩ := h
  exact ⟨fun i hi => (h1 i hi).se, Or.inr ⟨gl, o, cap, e, h2, h3, h4, h5⟩⟩
theorem Pq.chg {g : Nat} {w w' : World} {v : Value} {k : Nat} {pv : Nat → Value} {pn : Nat → Nat} {pf : Nat → Nat → Nat} (h : Pq g w v k pv pn pf) (hc : Chg w w' [g]) : Pq g w' v k pv pn pf := by
  obtain ⟨h1, gl, o, cap, e, h2, h3, h4, h6, h5⟩ := h
  refine ⟨fun i hi => (h1 i hi).chg hc, gl, o, cap, e, h2, h3, Nat.lt_of_lt_of_le h4 hc.size, h6, fun i hi => ?_⟩
  rw [← h5 i hi]
  simp only [World.cell?, hc.block gl h4 (by simpa using h6)]
theorem Pq.rl {g : Nat} {w : World} {v : Value} {k : Nat} {pv : Nat → Value} {pn : Nat → Nat} {pf : Nat → Nat → Nat} (h : Pq g w v k pv pn pf) : Rl w 1 v k (fun i => [pv i]) := by
  obtain ⟨h1, gl, o, cap, e, h2, h3, h4, _, h5⟩ := h
  refine ⟨fun i hi => ⟨rfl, fun x hx => ?_⟩, Or.inr ⟨gl, o, cap, e, h2, h3, h4, fun i hi j x hx => ?_⟩⟩
  · obtain ⟨p, c, e2⟩ := (h1 i hi).se.form
    rw [List.mem_singleton] at hx
    rw [hx, e2]; rfl
  · have hj : j = 0 := by
      have := (List.getElem?_eq_some_iff.1 hx).1
      simp at this; omega
    subst hj
    simp at hx
    rw [← hx, Nat.mul_one, Nat.add_zero]
    exact h5 i hi
def q2 {α : Type} (a b : α) (f : Nat → α) : Nat → α := fun i => if i = 0 then a else if i = 1 then b else f (i - 2)
theorem q2_at {α : Type} (a b : α) (f : Nat → α) (k : Nat) : q2 a b f (2 + k) = f k := by
  unfold q2; rw [if_neg (by omega), if_neg (by omega), show 2 + k - 2 = k by omega]
theorem cN_q2 (a b : Nat) (pn : Nat → Nat) : ∀ k, cN (q2 a b pn) (2 + k) = a + (b + cN pn k)
  | 0 => by simp [cN, q2]
  | k + 1 => by
    show cN (q2 a b pn) (2 + k) + q2 a b pn (2 + k) = a + (b + (cN pn k + pn k))
    rw [cN_q2 a b pn k, q2_at]; omega
theorem cF_q2 (a b : Nat) (pn : Nat → Nat) (f h : Nat → Nat) (pf : Nat → Nat → Nat) {k : Nat} (hk : 0 < k) : cF (q2 a b pn) (q2 f h pf) (2 + k) = cat f a (cat h b (cF pn pf k)) := by
  induction k with
  | zero => omega
  | succ k ih =>
    show cat (cF (q2 a b pn) (q2 f h pf) (2 + k)) (cN (q2 a b pn) (2 + k)) (q2 f h pf (2 + k)) = cat f a (cat h b (cat (cF pn pf k) (cN pn k) (pf k)))
    rw [q2_at, cN_q2]
    by_cases h0 : k = 0
    · subst h0
      have e1 : cF (q2 a b pn) (q2 f h pf) (2 + 0) = cat f a h := by simp [cF, cN, q2, cat_zero]
      have e2 : cat (cF pn pf 0) (cN pn 0) (pf 0) = pf 0 := by simp [cF, cN, cat_zero]
      rw [e1, e2]
      show cat (cat f a h) (a + (b + 0)) (pf 0) = _
      rw [Nat.add_zero, catA]
    · rw [ih (by omega), catA, catA]
theorem Ps.ofR {w : World} {v : Value} {n : Nat} {F : Nat → List Value} {pv : Nat → Value} {pn : Nat → Nat} {pf : Nat → Nat → Nat} (h : Rl w 1 v n F) (hF : ∀ i, F i = [pv i]) (he : ∀ i, i < n → Se w (pv i) (pn i) (pf i)) : Ps w v n pv pn pf := by
  refine ⟨he, ?_⟩
  rcases h.2 with h2 | ⟨g, o, cap, e, h2, h3, h4, h5⟩
  · exact Or.inl h2
  · refine Or.inr ⟨g, o, cap, e, h2, h3, h4, fun i hi => ?_⟩
    have := h5 i hi 0 (pv i) (by rw [hF]; rfl)
    rwa [Nat.mul_one, Nat.add_zero] at this
theorem q2_R {a b : Value} {pv : Nat → Value} (i : Nat) : catR (p2 [a] [b]) 2 (fun i => [pv i]) i = [q2 a b pv i] := by
  unfold catR p2 q2
  by_cases h : i < 2
  · rw [if_pos h]
    rcases (show i = 0 ∨ i = 1 by omega) with rfl | rfl <;> rfl
  · rw [if_neg h, if_neg (show ¬ i = 0 by omega), if_neg (show ¬ i = 1 by omega)]
theorem q2_se {w : World} {a b : Value} {n m : Nat} {f g : Nat → Nat} {pv : Nat → Value} {pn : Nat → Nat} {pf : Nat → Nat → Nat} {k : Nat} (ha : Se w a n f) (hb : Se w b m g) (h : ∀ i, i < k → Se w (pv i) (pn i) (pf i)) : ∀ i, i < 2 + k → Se w (q2 a b pv i) (q2 n m pn i) (q2 f g pf i) := fun i hi => by
  by_cases h0 : i = 0
  · subst h0; exact ha
  · by_cases h1 : i = 1
    · subst h1; exact hb
    · unfold q2
      rw [if_neg h0, if_neg h1, if_neg h0, if_neg h1, if_neg h0, if_neg h1]
      exact h (i - 2) (by omega)
theorem ob_s (g o n c : Nat) : ob (.slice (some ⟨g, o, none⟩) n c) = [g] := rfl
theorem ownL {w : World} {lb : Nat} {p q : Option Addr} {n m c d : Nat} (B : Blk w lb #[.slice p n c, .slice q m d] 22) : OwnR w lb 22 1 (.slice (some ⟨lb, 0, none⟩) 2 2) 2 (p2 [.slice p n c] [.slice q m d]) := by
  refine ⟨⟨rL_len _ _ _, Or.inr ⟨lb, 2, _, rfl, Nat.le_refl _, B, Nat.le_refl _, by simp [maxLen], rfl, rfl⟩⟩, fun i hi => ?_⟩
  rcases (show i = 0 ∨ i = 1 by omega) with rfl | rfl
  · exact ⟨rfl, fun x hx => by rw [show p2 [Value.slice p n c] [.slice q m d] 0 = [.slice p n c] from rfl, List.mem_singleton] at hx; rw [hx]; rfl⟩
  · exact ⟨rfl, fun x hx => by rw [show p2 [Value.slice p n c] [.slice q m d] 1 = [.slice q m d] from rfl, List.mem_singleton] at hx; rw [hx]; rfl⟩
/-- K, V behind bytes that were stirred in with a mark. -/
def sk (m : Nat) (K V : Nat → Nat) (N : Nat) (X : Nat → Nat) : Nat → Nat := mac 64 K (64 + (1 + N)) (cat V 64 (cat (fun _ => m) 1 X))
def sv (m : Nat) (K V : Nat → Nat) (N : Nat) (X : Nat → Nat) : Nat → Nat := mac 64 (sk m K V N X) 64 V
theorem sk_lt (m : Nat) (K V : Nat → Nat) (N : Nat) (X : Nat → Nat) (j : Nat) : sk m K V N X j < 256 := mac_lt _ _ _ _ _
theorem sv_lt (m : Nat) (K V : Nat → Nat) (N : Nat) (X : Nat → Nat) (j : Nat) : sv m K V N X j < 256 := mac_lt _ _ _ _ _
set_option maxHeartbeats 8000000 in
set_option maxRecDepth 100000 in
theorem stirMarked_s (g : Nat) (K V : Nat → Nat) (d : Nat) (mi : Int) (m : Nat) (hmi : mi = (m : Int)) (hm : m < 256) (v : Value) (k : Nat) (pv : Nat → Value) (pn : Nat → Nat) (pf : Nat → Nat → Nat) (w : World) (hG : Gl w) (hg : 2 ≤ g) (hK : ∀ i, i < 64 → K i < 256) (hV : ∀ i, i < 64 → V i < 256)
    (BG0 : Blk w g (gC K V d) 141) (hp : Pq g w v k pv pn pf) (h0 : 0 < k) (hk : k ≤ 1000) (hN : cN pn k < 9223372036854775808) :
    Calls Tryd.prog 101 #[.pointer (some ⟨g, 0, none⟩), .int .u8 mi, v] w fun e w' => e = .returned (.tuple #[]) ∧ Chg w w' [g] ∧ Blk w' g (gC (sk m K V (cN pn k) (cF pn pf k)) (sv m K V (cN pn k) (cF pn pf k)) d) 141 := by
  obtain ⟨K1, hE1⟩ : ∃ X, sk m K V (cN pn k) (cF pn pf k) = X := ⟨_, rfl⟩
  obtain ⟨V1, hE2⟩ : ∃ X, sv m K V (cN pn k) (cF pn pf k) = X := ⟨_, rfl⟩
  have HE1 : Hid (mac 64 K (64 + (1 + cN pn k)) (cat V 64 (cat (fun _ => m) 1 (cF pn pf k))) = K1) := hE1
  have HE2 : Hid (mac 64 K1 64 V = V1) := by show mac 64 K1 64 V = V1; rw [← hE1]; exact hE2
  have HK1 : Hid (∀ i, i < 64 → K1 i < 256) := by show ∀ i, i < 64 → K1 i < 256; intro i _; rw [← hE1]; exact sk_lt _ _ _ _ _ _
  have HK : Hid (∀ i, i < 64 → K i < 256) := hK
  have HV : Hid (∀ i, i < 64 → V i < 256) := hV
  have HG : Hid (Gl w) := hG
  have HG0 : Hid (¬ 0 ∈ [g]) := by show ¬ 0 ∈ [g]; simp; omega
  have HG1 : Hid (¬ 1 ∈ [g]) := by show ¬ 1 ∈ [g]; simp; omega
  have HGP : Hid (2 ≤ g) := hg
  have HGL : Hid (g < w.heap.size) := BG0.lt
  have HP : Hid (Pq g w v k pv pn pf) := hp
  have HK0 : Hid (0 < k ∧ k ≤ 1000 ∧ cN pn k < 9223372036854775808) := ⟨h0, hk, hN⟩
  have HM : Hid (m < 256) := hm
  rw [hE1, hE2]
  subst hmi
  obtain ⟨gl0, o0, c0, rfl, _⟩ := hp.2
  clear hE1 hE2 hK hV hG hg hp h0 hk hN hm
  obtain ⟨ib, hib, hibz, hibs, hibb⟩ := bytesRow
  obtain ⟨iu, hiu, hiuz, hius, _⟩ := u8Row
  go_enter Tryd.func101, Tryd.ntmps101
  go_upto_region 1 with (first
    | (with_reducible refine bsl_w ?_ 22 5 1 #[(0, .tmp 11)] ?_ [(0, .int .u8 (m : Int))] ?_ #[.int .u8 (m : Int)] iu (.int .u8 0) Tryd.underlying22 hiu hiuz 1 hius ?_ ?_ (fillB1 _) ?_
       · rfl
       · rfl
       · simp [Act.eval]
       · omega
       · omega
       intro mb w1 hmb BM k1))
  obtain ⟨w2, hw2⟩ : ∃ z, z = w1.alloc (.cells #[.slice (some ⟨g, 64, none⟩) 64 64, .slice (some ⟨mb, 0, none⟩) 1 1] 22) := ⟨_, rfl⟩
  have BL := Blk.new w1 #[.slice (some ⟨g, 64, none⟩) 64 64, .slice (some ⟨mb, 0, none⟩) 1 1] 22
  have k2 := (Chg.refl w1 []).alloc (.cells #[.slice (some ⟨g, 64, none⟩) 64 64, .slice (some ⟨mb, 0, none⟩) 1 1] 22)
  obtain ⟨lb, hlbE⟩ : ∃ z, w1.heap.size = z := ⟨_, rfl⟩
  rw [hlbE, ← hw2]
  rw [hlbE, ← hw2] at BL
  rw [← hw2] at k2
  have hlb : w1.heap.size ≤ lb := by omega
  clear hw2 hlbE
  have BG := (BG0.chg k1 (by simp)).chg k2 (by simp)
  have K2 := k1.trans1 k2
  have S1 : Bs w2 mb 0 1 (fun _ => m) := (Blk.bs (N := 1) (t := fun _ => m) BM (fun _ _ => HM.out)).chg k2 (by simp)
  have HML : Hid (¬ mb ∈ [lb]) := by show ¬ mb ∈ [lb]; have := BM.lt; simp; omega
  have HGL2 : Hid (¬ g ∈ [lb]) := by show ¬ g ∈ [lb]; have := HGL.out; have := k1.size; simp; omega
  have HNL : Hid (∀ i, i ∈ [lb] → i ∈ [g] ∨ w.heap.size ≤ i) := by show ∀ i, i ∈ [lb] → _; intro i hi; simp at hi; subst hi; exact Or.inr (Nat.le_trans k1.size hlb)
  clear BG0 BM k1 k2 hlb hmb
  refine wp_region_held_drew (S := fun w' => Chg w w' [g]) (by kernel_rfl) ((K2.wide (l := [g])).drew) (fun hHeld => ?_)
  refine take_val (v := ?_) 0 (some 14) rfl (by kernel_rfl) (by kernel_rfl) (by kernel_rfl) (fun _ _ _ h => h) rfl rfl (fun w hSw => ?_) hHeld ?_
  rotate_left
  · (go_simp; try with_reducible rfl)
  try simp only [Act.put, List.setIfInBounds_toArray, List.set_cons_zero, List.set_cons_succ]
  refine take_val (v := ?_) 1 (some 15) rfl (by kernel_rfl) (by kernel_rfl) (by kernel_rfl) (fun _ _ _ h => h) rfl rfl (fun w hSw => ?_) hHeld ?_
  rotate_left
  · (go_simp; try with_reducible rfl)
  try simp only [Act.put, List.setIfInBounds_toArray, List.set_cons_zero, List.set_cons_succ]
  refine take_val (v := ?_) 2 (some 16) rfl (by kernel_rfl) (by kernel_rfl) (by kernel_rfl) (fun _ _ _ h => h) rfl rfl (fun w hSw => ?_) hHeld ?_
  rotate_left
  · (go_simp; try with_reducible rfl)
  try simp only [Act.put, List.setIfInBounds_toArray, List.set_cons_zero, List.set_cons_succ]
  refine take_val (v := (.pointer (some ⟨g, 0, none⟩))) 3 (some 17) rfl (by kernel_rfl) (by kernel_rfl) (by kernel_rfl) (fun _ _ _ h => h) rfl rfl (fun w hSw => ?_) hHeld ?_
  · (go_simp; try with_reducible rfl)
  try simp only [Act.put, List.setIfInBounds_toArray, List.set_cons_zero, List.set_cons_succ]
  refine take_val (v := (.slice (some ⟨g, 0, none⟩) 64 64)) 4 (some 18) rfl (by kernel_rfl) (by kernel_rfl) (by kernel_rfl) (fun _ _ _ h => h) rfl rfl (fun w hSw => ?_) hHeld ?_
  · (go_simp; try with_reducible rfl)
  try simp only [Act.put, List.setIfInBounds_toArray, List.set_cons_zero, List.set_cons_succ]
  refine take_val (v := ?_) 5 (some 19) rfl (by kernel_rfl) (by kernel_rfl) (by kernel_rfl) (fun _ _ _ h => h) rfl rfl (fun w hSw => ?_) hHeld ?_
  rotate_left
  · (go_simp; try with_reducible rfl)
  try simp only [Act.put, List.setIfInBounds_toArray, List.set_cons_zero, List.set_cons_succ]
  refine take_val (v := ?_) 6 (some 20) rfl (by kernel_rfl) (by kernel_rfl) (by kernel_rfl) (fun _ _ _ h => h) rfl rfl (fun w hSw => ?_) hHeld ?_
  rotate_left
  · (go_simp; try with_reducible rfl)
  try simp only [Act.put, List.setIfInBounds_toArray, List.set_cons_zero, List.set_cons_succ]
  refine wpAnyH_ready (rs := [7]) (by kernel_rfl) (by simp) ?_
  refine AllReadyH.cons (o := _) rfl (fun K' hK => ?_) ?_
  ·
    rw [if_pos (by rfl)]
    have PW := (HP.out.chg hHeld)
    have OL := ownL BL.drew
    refine wp_append_r (.tmp 19) (.tmp 20) 23 rfl 22 ib (.slice none 0 0) 1 24 Tryd.underlying23 hib hibz hibs hibb rfl (by omega) lb (.slice (some ⟨lb, 0, none⟩) 2 2) (.slice (some ⟨gl0, o0, none⟩) k c0) 2 k _ (fun i => [pv i]) rfl rfl OL PW.rl HK0.out.1 (by have := HK0.out; omega) (by have := HK0.out; omega) (by have := BL.drew.lt; omega) ?_
    intro ga ca v3 OA k3 _ _
    have BG3 := BG.drew.chg k3 (by rw [ob_s]; exact HGL2.out)
    have S13 := S1.drew.chg k3 (by rw [ob_s]; exact HML.out)
    change K' (Act.put _ (some 21) _) _
    refine hK.out _ _ (hHeld.trans k3 (by rw [ob_s]; exact HNL.out)) (fun hHeld => ?_)
    clear hK K'
    try simp only [Act.put, List.setIfInBounds_toArray, List.set_cons_zero, List.set_cons_succ]
    clear k3 OL PW
    refine wpAnyH_ready (rs := [8]) (by kernel_rfl) (by simp) ?_
    refine AllReadyH.cons (o := _) rfl (fun K' hK => ?_) ?_
    ·
      go_simp
      have PW := (HP.out.chg hHeld)
      have SK := (gC_K BG3 HK.out).sl 64 (by omega) (by omega)
      have SV := (gC_V BG3 HV.out).sl 64 (by omega) (by omega)
      refine (MAC_s _ 64 K _ (2 + k) (q2 (.slice (some ⟨g, 64, none⟩) 64 64) (.slice (some ⟨mb, 0, none⟩) 1 1) pv) (q2 64 1 pn) (q2 V (fun _ => m) pf) _ (HG.out.chg hHeld HG0.out HG1.out) (Or.inl SK) (by omega) (Ps.ofR OA.rl q2_R (q2_se (Or.inl SV) (Or.inl (S13.sl 1 (by omega) (by omega))) PW.ps.1)) (by rw [cN_q2]; have := HK0.out; omega)).mono ?_
      rintro e v4 ⟨rfl, k4⟩
      rw [cN_q2, cF_q2 _ _ _ _ _ _ HK0.out.1, HE1.out]
      go_wp2_with fail
      refine hK.out _ _ (hHeld.trans k4 (by simp)) (fun hHeld => ?_)
      clear hK K'
      try simp only [Act.put, List.setIfInBounds_toArray, List.set_cons_zero, List.set_cons_succ]
      replace BG3 := BG3.chg k4 (by simp)
      clear k4 PW SK SV
      refine take_val (v := ?_) 9 (some 23) rfl (by kernel_rfl) (by kernel_rfl) (by kernel_rfl) (fun _ _ _ h => h) rfl rfl (fun w hSw => ?_) hHeld ?_
      rotate_left
      · (go_simp; try with_reducible rfl)
      try simp only [Act.put, List.setIfInBounds_toArray, List.set_cons_zero, List.set_cons_succ]
      refine take_val (v := (.pointer (some ⟨g, 0, none⟩))) 10 (some 24) rfl (by kernel_rfl) (by kernel_rfl) (by kernel_rfl) (fun _ _ _ h => h) rfl rfl (fun w hSw => ?_) hHeld ?_
      · (go_simp; try with_reducible rfl)
      try simp only [Act.put, List.setIfInBounds_toArray, List.set_cons_zero, List.set_cons_succ]
      refine wpAnyH_ready (rs := [11]) (by kernel_rfl) (by simp) ?_
      refine AllReadyH.cons (o := _) rfl (fun K' hK => ?_) ?_
      ·
        rw [if_pos (by rfl)]
        refine wp_store_gK BG3 _ _ rfl K1 rfl rfl ?_
        intro v5 BG5 k5
        refine hK.out _ _ (hHeld.trans1 k5) (fun hHeld => ?_)
        clear hK K'
        try simp only [Act.put, List.setIfInBounds_toArray, List.set_cons_zero, List.set_cons_succ]
        clear k5
        refine wpAnyH_done (by kernel_rfl) ?_ _
        obtain ⟨w5, rfl⟩ : ∃ z, z = v5 := ⟨v5, rfl⟩
        go_wp2_with fail
        refine (next_s g K1 V d w5 (HG.out.chg hHeld HG0.out HG1.out) HGP.out HK1.out HV.out BG5).mono ?_
        rintro e w6 ⟨rfl, k6, B6⟩
        rw [HE2.out] at B6
        go_wp2_with fail
        go_end0
        exact ⟨rfl, hHeld.trans1 k6, B6⟩
      exact AllReadyH.nil
    exact AllReadyH.nil
  exact AllReadyH.nil
end Go.Proofs.YthpfdnkcepfbaaaDoor
