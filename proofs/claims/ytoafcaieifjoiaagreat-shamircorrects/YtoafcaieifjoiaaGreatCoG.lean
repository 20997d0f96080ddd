/- Correct: the mathematics over the program's numbers. -/
import Derived.Test.YtoafcaieifjoiaaGreatMgI
import Derived.Test.YtoafcaieifjoiaaGreatBkM7
import Derived.Test.YtoafcaieifjoiaaGreatMgE
set_option linter.unusedVariables false
set_option linter.unusedSimpArgs false
set_option linter.unnecessarySimpa false
namespace Go.Proofs.YtoafcaieifjoiaaGreat
open Go.RowKit N

namespace Q
variable {n : Nat} [NeZero n]
/-- Where a polynomial of T coefficients misses at most e places: the kernel is not 0 alone, and whatever lies in it is 0 where the polynomial is not met. -/
theorem dec_has (hz : ∀ a b : Fin n, a * b = 0 → a = 0 ∨ b = 0) (h1 : (1 : Fin n) ≠ 0) {N T e K : Nat} (hN : T + e + K = N + 1) (hK : e ≤ K) (hT : 0 < T) (x y w : Nat → Fin n) (hx : ∀ i j, i < N + 1 → j < N + 1 → x i = x j → i = j) (hw : ∀ i, i < N + 1 → w i * pdx (fun j => x i - x j) i (N + 1) = 1)
    (c : Nat → Fin n) (bad : Nat → Bool) (hb : ∀ i, i < N + 1 → bad i = false → y i = pe c (x i) 0 T) (hc : cnt bad (N + 1) ≤ e) :
    (¬ ∀ v : Nat → Fin n, Ker (fun i j => mom x (fun s => w s * y s) (N + 1) (i + j)) K (e + 1) v → ∀ k, k < e + 1 → v k = 0) ∧
    ∀ v : Nat → Fin n, Ker (fun i j => mom x (fun s => w s * y s) (N + 1) (i + j)) K (e + 1) v → ∀ i, i < N + 1 → ¬ y i = pe c (x i) 0 T → pe v (x i) 0 (e + 1) = 0 := by
  refine ⟨fun hall => ?_, fun v hv i hi hne => ?_⟩
  · obtain ⟨r, hr⟩ : ∃ r, e + 1 = cnt bad (N + 1) + 1 + r := ⟨e - cnt bad (N + 1), by omega⟩
    have hp : Isp (fun z => pdw x bad z (N + 1)) (e + 1) := hr ▸ (Isp.pdw x bad (N + 1)).more r
    obtain ⟨v, hv0, hv⟩ := hp
    have hk := ker_has hz hN x y w hx hw (fun z => pe c z 0 T) (Isp.of c T) bad hb v (fun i hi hbi => by
      rw [← hv]
      exact pd_zero (i := i) hi (by rw [if_pos hbi]; grind))
    have h0 := hall v hk
    have q1 := cnt_not bad (N + 1)
    obtain ⟨g, g1, _⟩ := pick (fun j => !bad j) (N + 1)
    obtain ⟨hg, hgb⟩ := g1 0 (by omega)
    have hgb' : bad (g 0) = false := by simpa using hgb
    have e1 : pdw x bad (x (g 0)) (N + 1) = 0 := by
      have q : pdw x bad (x (g 0)) (N + 1) = pe v (x (g 0)) 0 (e + 1) := hv (x (g 0))
      rw [q]
      exact pe_zero fun i _ hi => h0 i (by omega)
    refine pd_ne hz h1 (fun j hj => ?_) e1
    by_cases q : bad j = true
    · rw [if_pos q]
      intro e2
      have e3 : x (g 0) = x j := by grind
      have := hx _ _ hg hj e3
      rw [← this, hgb'] at q
      exact Bool.noConfusion q
    · rw [if_neg q]; exact h1
  · have hbi : bad i = true := by
      by_cases q : bad i = true
      · exact q
      · exact absurd (hb i hi (by simpa using q)) hne
    refine bw hz h1 hN hK x y w hx hw (fun z => pe c z 0 T) (fun z => pe v z 0 (e + 1)) (Isp.of c T) (Isp.of v (e + 1)) bad hb hc (fun p hp => ?_) i hi hbi hne
    rw [← mom_all hv p hp]
    exact sm_congr fun s _ => by grind
end Q
theorem zq_sL (f : Nat → Nat) : haveI := LN_nz; ∀ k, zq LN (sL f k) = Q.sm (fun j => zq LN ((f j : Nat) : Int)) k
  | 0 => by haveI := LN_nz; exact zq_0
  | k + 1 => by
    haveI := LN_nz
    show zq LN (sL f k + ((f k : Nat) : Int)) = Q.sm (fun j => zq LN ((f j : Nat) : Int)) k + zq LN ((f k : Nat) : Int)
    rw [zq_add, zq_sL f k]
theorem zq_ptk (d y : Nat → Int) (N j : Nat) : haveI := LN_nz; ∀ p, zq LN (ptk d y N p j) = zq LN (igv d N j) * zq LN (y j) * Q.pwx (zq LN (d j)) p
  | 0 => by
    haveI := LN_nz
    show zq LN (ml (igv d N j) (y j)) = zq LN (igv d N j) * zq LN (y j) * 1
    rw [zq_ml L_LN]; grind
  | p + 1 => by
    haveI := LN_nz
    show zq LN (ml (ptk d y N p j) (d j)) = zq LN (igv d N j) * zq LN (y j) * (Q.pwx (zq LN (d j)) p * zq LN (d j))
    rw [zq_ml L_LN, zq_ptk d y N j p]; grind
theorem zq_mo (d y : Nat → Int) (N p : Nat) : haveI := LN_nz; zq LN (mo d y N p) = Q.mom (fun s => zq LN (d s)) (fun s => zq LN (igv d N s) * zq LN (y s)) N p := by
  haveI := LN_nz
  unfold mo Q.mom
  rw [zq_L L_LN, zq_sL]
  exact Q.sm_congr fun s _ => by rw [nT_c _ _ (ptk_r d y N p s).1, zq_ptk]
theorem ker_mo (d y : Nat → Int) (N K W : Nat) (v : Nat → @Fin LN) : haveI := LN_nz; Q.Ker (fun i j => zq LN (mo d y N (i + j))) K W v ↔ Q.Ker (fun i j => Q.mom (fun s => zq LN (d s)) (fun s => zq LN (igv d N s) * zq LN (y s)) N (i + j)) K W v := by
  haveI := LN_nz
  have e : (fun i j => zq LN (mo d y N (i + j))) = (fun i j => Q.mom (fun s => zq LN (d s)) (fun s => zq LN (igv d N s) * zq LN (y s)) N (i + j)) := by
    funext i j; exact zq_mo d y N (i + j)
  rw [e]
theorem one_ne : haveI := LN_nz; (1 : Fin LN) ≠ 0 := by
  haveI := LN_nz
  intro e
  have h1 := (zq_is0 (n := LN) L_LN (x := 1) ⟨by decide, by decide⟩).1 (by rw [zq_1]; exact e)
  omega
theorem zq_apart {d : Nat → Int} {N : Nat} (h : idE d N = 0) : haveI := LN_nz; ∀ i j, i < N → j < N → zq LN (d i) = zq LN (d j) → i = j := by
  haveI := LN_nz
  intro i j hi hj e
  obtain ⟨q1, q2⟩ := idE_zero h
  have e4 := zq_eq.1 e
  rw [← L_LN, mod_id (id_rl q1 hi), mod_id (id_rl q1 hj)] at e4
  exact q2 i j hi hj e4
/-- A place is marked where a share does not lie on the polynomial. -/
def stB (f : Nat → Nat) (M : Nat) (d y : Nat → Int) (i : Nat) : Bool := !decide (ev f (d i) 0 M = cn (y i))
theorem st_cnt (f : Nat → Nat) (M : Nat) (d y : Nat → Int) : ∀ k, (stL f M d y k).length = Q.cnt (stB f M d y) k
  | 0 => rfl
  | k + 1 => by
    rw [Q.cnt_s, ← st_cnt f M d y k]
    by_cases h : ev f (d k) 0 M = cn (y k)
    · have e : stL f M d y (k + 1) = stL f M d y k := by show (if ev f (d k) 0 M = cn (y k) then _ else _) = _; rw [if_pos h]
      rw [e, if_neg (by unfold stB; simp [h])]; rfl
    · have e : stL f M d y (k + 1) = stL f M d y k ++ [d k] := by show (if ev f (d k) 0 M = cn (y k) then _ else _) = _; rw [if_neg h]
      rw [e, if_pos (by unfold stB; simp [h]), List.length_append]; rfl
theorem ev_zq {f : Nat → Nat} {M : Nat} {x y : Int} : haveI := LN_nz; ev f x 0 M = cn y ↔ zq LN y = Q.pe (fun j => zq LN ((f j : Nat) : Int)) (zq LN x) 0 M := by
  haveI := LN_nz
  rw [← zq_ev L_LN, zq_eq, ← L_LN, mod_id (ev_rl _ _ _ _)]
  exact ⟨fun h => h.symm, fun h => h.symm⟩
theorem co_has {d y : Nat → Int} {N T e K : Nat} (h : idE d N = 0) (hT : 0 < T) (hN : T + e + K = N) (hK : e ≤ K) (f : Nat → Nat) (hs : (stL f T d y N).length ≤ e) : haveI := LN_nz;
    (¬ ∀ v : Nat → Fin LN, Q.Ker (fun i j => zq LN (mo d y N (i + j))) K (e + 1) v → ∀ k, k < e + 1 → v k = 0) ∧
    ∀ v : Nat → Fin LN, Q.Ker (fun i j => zq LN (mo d y N (i + j))) K (e + 1) v → ∀ i, i < N → ¬ ev f (d i) 0 T = cn (y i) → Q.pe v (zq LN (d i)) 0 (e + 1) = 0 := by
  haveI := LN_nz
  obtain ⟨m, rfl⟩ : ∃ m, N = m + 1 := ⟨N - 1, by omega⟩
  have hq := Q.dec_has (n := LN) (zq_dom L_LN) one_ne hN hK hT (fun s => zq LN (d s)) (fun s => zq LN (y s)) (fun s => zq LN (igv d (m + 1) s)) (zq_apart h) (fun i hi => zq_igv h hi)
    (fun j => zq LN ((f j : Nat) : Int)) (stB f T d y) (fun i _ hb => ev_zq.1 (by unfold stB at hb; simpa using hb)) (by rw [← st_cnt]; exact hs)
  refine ⟨fun hall => hq.1 fun v hv => hall v ((ker_mo d y (m + 1) K (e + 1) v).2 hv), fun v hv i hi hne => hq.2 v ((ker_mo d y (m + 1) K (e + 1) v).1 hv) i hi (fun e => hne (ev_zq.2 e))⟩
/-- Two polynomials that each miss few are one. -/
theorem co_one {d y : Nat → Int} {N T e : Nat} (h : idE d N = 0) (hN : T + e + e ≤ N) (f g : Nat → Nat) (hf : (stL f T d y N).length ≤ e) (hg : (stL g T d y N).length ≤ e) : ∀ j, j < T → ((f j : Nat) : Int) % L = ((g j : Nat) : Int) % L := fun j hj => by
  haveI := LN_nz
  have q := Q.dec_one (n := LN) (zq_dom L_LN) hN (fun s => zq LN (d s)) (fun s => zq LN (y s)) (zq_apart h) (fun j => zq LN ((f j : Nat) : Int)) (fun j => zq LN ((g j : Nat) : Int)) (stB f T d y) (stB g T d y)
    (fun i _ hb => ev_zq.1 (by unfold stB at hb; simpa using hb)) (fun i _ hb => ev_zq.1 (by unfold stB at hb; simpa using hb)) (by rw [← st_cnt]; exact hf) (by rw [← st_cnt]; exact hg) j hj
  have := zq_eq.1 q
  rwa [← L_LN] at this
theorem stL_cong {f g : Nat → Nat} {T : Nat} {d y : Nat → Int} (h : ∀ j, j < T → ((f j : Nat) : Int) % L = ((g j : Nat) : Int) % L) : ∀ k, stL f T d y k = stL g T d y k
  | 0 => rfl
  | k + 1 => by unfold stL; rw [ev_cong (d k) h, stL_cong h k]
/-! ### The shares at which the locator is not 0 -/
theorem cl_pick (f : Nat → Nat) (M : Nat) (d y : Nat → Int) : ∀ k, ∃ g : Nat → Nat, (∀ j, j < (clL f M d y k).length → g j < k ∧ (clL f M d y k).getD j (0, 0) = (d (g j), y (g j)) ∧ ¬ ev f (d (g j)) 0 M = 0) ∧ ∀ i j, i < (clL f M d y k).length → j < (clL f M d y k).length → g i = g j → i = j
  | 0 => ⟨fun i => i, fun j hj => absurd hj (Nat.not_lt_zero _), fun i _ hi => absurd hi (Nat.not_lt_zero _)⟩
  | k + 1 => by
    obtain ⟨g, g1, g2⟩ := cl_pick f M d y k
    by_cases h : ev f (d k) 0 M = 0
    · have e : clL f M d y (k + 1) = clL f M d y k := by show (if ev f (d k) 0 M = 0 then _ else _) = _; rw [if_pos h]
      rw [e]
      exact ⟨g, fun j hj => ⟨by have := (g1 j hj).1; omega, (g1 j hj).2⟩, g2⟩
    · have e : clL f M d y (k + 1) = clL f M d y k ++ [(d k, y k)] := by show (if ev f (d k) 0 M = 0 then _ else _) = _; rw [if_neg h]
      rw [e]
      refine ⟨fun j => if j < (clL f M d y k).length then g j else k, fun j hj => ?_, fun i j hi hj hij => ?_⟩
      · rw [List.length_append] at hj
        by_cases a : j < (clL f M d y k).length
        · simp only [if_pos a]
          refine ⟨by have := (g1 j a).1; omega, ?_, (g1 j a).2.2⟩
          rw [← (g1 j a).2.1]
          simp [List.getD_eq_getElem?_getD, List.getElem?_append_left a]
        · simp only [if_neg a]
          have a2 : j = (clL f M d y k).length := by simp at hj; omega
          refine ⟨by omega, ?_, h⟩
          rw [a2]
          simp [List.getD_eq_getElem?_getD]
      · rw [List.length_append] at hi hj
        by_cases a : i < (clL f M d y k).length
        · by_cases b : j < (clL f M d y k).length
          · simp only [if_pos a, if_pos b] at hij
            exact g2 i j a b hij
          · simp only [if_pos a, if_neg b] at hij
            have := (g1 i a).1
            omega
        · by_cases b : j < (clL f M d y k).length
          · simp only [if_neg a, if_pos b] at hij
            have := (g1 j b).1
            omega
          · simp at hi hj; omega
theorem cl_cnt (f : Nat → Nat) (M : Nat) (d y : Nat → Int) : ∀ k, (clL f M d y k).length = Q.cnt (fun i => !decide (ev f (d i) 0 M = 0)) k
  | 0 => rfl
  | k + 1 => by
    rw [Q.cnt_s, ← cl_cnt f M d y k]
    by_cases h : ev f (d k) 0 M = 0
    · have e : clL f M d y (k + 1) = clL f M d y k := by show (if ev f (d k) 0 M = 0 then _ else _) = _; rw [if_pos h]
      rw [e, if_neg (by simp [h])]; rfl
    · have e : clL f M d y (k + 1) = clL f M d y k ++ [(d k, y k)] := by show (if ev f (d k) 0 M = 0 then _ else _) = _; rw [if_neg h]
      rw [e, if_pos (by simp [h]), List.length_append]; rfl
/-- What follows where a locator was found. -/
theorem co_found {d y : Nat → Int} {N T e K : Nat} (h : idE d N = 0) (hT : 0 < T) (hN : T + e + K = N) (hK : e ≤ K) {lf : Nat → Int} {fr : Nat} (hfr : fr ≤ e) (hrl : ∀ j, j ≤ fr → RL (lf j)) (h1 : lf fr = 1)
    (hker : haveI := LN_nz; Q.Ker (fun i j => zq LN (mo d y N (i + j))) K (e + 1) (fun j => if j ≤ fr then zq LN (lf j) else 0)) (l : List (Int × Int)) (hl : clL (nT lf) (fr + 1) d y N = l) :
    T ≤ l.length ∧ (∀ j, j < l.length → ∃ i, i < N ∧ l.getD j (0, 0) = (d i, y i)) ∧ (∀ j, j < T → 1 ≤ (l.getD j (0, 0)).1 ∧ (l.getD j (0, 0)).1 ≤ 255) ∧ (∀ j, j < T → ¬ zv (fun j => (l.getD j (0, 0)).1) j = 0) ∧
    ∀ f, (stL f T d y N).length ≤ e → stL (nT (cc (fun j => (l.getD j (0, 0)).1) (fun j => (l.getD j (0, 0)).2) T)) T d y N = stL f T d y N := by
  haveI := LN_nz
  obtain ⟨q1, q2⟩ := idE_zero h
  obtain ⟨v, hv⟩ : ∃ v : Nat → Fin LN, (fun j => if j ≤ fr then zq LN (lf j) else 0) = v := ⟨_, rfl⟩
  rw [hv] at hker
  have hpe : ∀ x : Int, zq LN (ev (nT lf) x 0 (fr + 1)) = Q.pe v (zq LN x) 0 (e + 1) := fun x => by
    obtain ⟨r, rfl⟩ : ∃ r, e = fr + r := ⟨e - fr, by omega⟩
    rw [zq_ev L_LN, show fr + r + 1 = fr + 1 + r by omega, Q.pe_more r (fun i hi => by rw [← hv]; exact if_neg (by omega))]
    refine Q.pe_congr fun j _ hj => ?_
    rw [← hv]
    show _ = if j ≤ fr then zq LN (lf j) else 0
    rw [if_pos (by omega), nT_c _ _ (hrl j (by omega)).1]
  have hev : ∀ x : Int, ev (nT lf) x 0 (fr + 1) = 0 ↔ Q.pe v (zq LN x) 0 (e + 1) = 0 := fun x => by
    rw [← hpe x]; exact (zq_is0 L_LN (ev_rl _ _ _ _)).symm
  have hcz : Q.cnt (fun i => decide (ev (nT lf) (d i) 0 (fr + 1) = 0)) N < e + 1 := by
    refine Q.zeros_lt (n := LN) (zq_dom L_LN) (fun s => zq LN (d s)) v (zq_apart h) _ (fun i _ hb => (hev (d i)).1 (by simpa using hb)) (k := fr) (by omega) ?_
    rw [← hv]
    show ¬ (if fr ≤ fr then zq LN (lf fr) else 0) = 0
    rw [if_pos (Nat.le_refl _), h1, zq_1]
    exact one_ne
  have hlen := cl_cnt (nT lf) (fr + 1) d y N
  have hnot := Q.cnt_not (fun i => decide (ev (nT lf) (d i) 0 (fr + 1) = 0)) N
  obtain ⟨g, g1, g2⟩ := cl_pick (nT lf) (fr + 1) d y N
  rw [hl] at hlen g1 g2
  have hTl : T ≤ l.length := by omega
  have hid : idE (fun j => (l.getD j (0, 0)).1) T = 0 := idE_mk (fun i hi => by
      show 1 ≤ (l.getD i (0, 0)).1 ∧ (l.getD i (0, 0)).1 ≤ 255
      rw [(g1 i (by omega)).2.1]; exact q1 _ (g1 i (by omega)).1)
    (fun i j hi hj e => by
      have e' : (l.getD i (0, 0)).1 = (l.getD j (0, 0)).1 := e
      rw [(g1 i (by omega)).2.1, (g1 j (by omega)).2.1] at e'
      exact g2 i j (by omega) (by omega) (q2 _ _ (g1 i (by omega)).1 (g1 j (by omega)).1 e'))
  refine ⟨hTl, fun j hj => ⟨g j, (g1 j hj).1, (g1 j hj).2.1⟩, (idE_zero hid).1, id_ne hid, fun f hf => ?_⟩
  have hb := (co_has h hT hN hK f hf).2 v hker
  have ho := ev_only (X := fun j => (l.getD j (0, 0)).1) (Y := fun j => (l.getD j (0, 0)).2) (N := T) (id_ne hid) f (fun k hk => by
    show ev f (l.getD k (0, 0)).1 0 T = ad (l.getD k (0, 0)).2 0
    obtain ⟨a1, a2, a3⟩ := g1 k (by omega)
    rw [a2]
    have hgood : ev f (d (g k)) 0 T = cn (y (g k)) := by
      by_cases q : ev f (d (g k)) 0 T = cn (y (g k))
      · exact q
      · exact absurd ((hev _).2 (hb _ a1 q)) a3
    rw [hgood]
    unfold ad
    rw [Int.add_zero]; rfl)
  refine stL_cong (fun j hj => ?_) N
  rw [nT_c _ _ (cc_r _ _ T j).1, ← ho j hj]
  unfold ad
  rw [Int.add_zero, Int.emod_emod_of_dvd _ (Int.dvd_refl L)]
/-- Where none was found, no polynomial misses few. -/
theorem co_none {d y : Nat → Int} {N T e K : Nat} (h : idE d N = 0) (hT : 0 < T) (hN : T + e + K = N) (hK : e ≤ K) (hker : haveI := LN_nz; ∀ v : Nat → Fin LN, Q.Ker (fun i j => zq LN (mo d y N (i + j))) K (e + 1) v → ∀ k, k < e + 1 → v k = 0) (f : Nat → Nat) : ¬ (stL f T d y N).length ≤ e := fun hs => (co_has h hT hN hK f hs).1 hker
end Go.Proofs.YtoafcaieifjoiaaGreat
