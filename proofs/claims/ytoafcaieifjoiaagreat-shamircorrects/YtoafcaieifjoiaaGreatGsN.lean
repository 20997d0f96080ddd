/- Berlekamp and Welch, as the document has it: Q = y E everywhere. -/
import Derived.Test.YtoafcaieifjoiaaGreatCoG
import Derived.Test.YtoafcaieifjoiaaGreatMgI
set_option linter.unusedVariables false
set_option linter.unusedSimpArgs false
set_option linter.unnecessarySimpa false
namespace Go.Proofs.YtoafcaieifjoiaaGreat
open Go.RowKit N

namespace Q
variable {n : Nat} [NeZero n]
theorem sm_split (f : Nat → Fin n) (a : Nat) : ∀ b, sm f (a + b) = sm f a + sm (fun j => f (a + j)) b
  | 0 => by show sm f a = sm f a + 0; grind
  | b + 1 => by
    show sm f (a + b) + f (a + b) = sm f a + (sm (fun j => f (a + j)) b + f (a + b))
    rw [sm_split f a b]; grind
def rowQ (x y : Nat → Fin n) (T e : Nat) : Nat → Nat → Fin n := fun i k => if k < T + e then pwx (x i) k else if k < T + e + e then - (y i * pwx (x i) (k - (T + e))) else y i * pwx (x i) e
theorem sol_iff (x y u : Nat → Fin n) (N T e : Nat) : Sol (rowQ x y T e) N (T + e + e) u ↔ ∀ i, i < N → pe u (x i) 0 (T + e) = y i * (pe (fun j => u (T + e + j)) (x i) 0 e + pwx (x i) e) := by
  have key : ∀ i, sm (fun k => rowQ x y T e i k * u k) (T + e + e) = pe u (x i) 0 (T + e) - y i * pe (fun j => u (T + e + j)) (x i) 0 e := fun i => by
    rw [sm_split, pe_sm, pe_sm]
    have e1 : sm (fun k => rowQ x y T e i k * u k) (T + e) = sm (fun j => u j * pwx (x i) j) (T + e) := sm_congr fun k hk => by unfold rowQ; rw [if_pos hk]; grind
    have e2 : sm (fun j => rowQ x y T e i (T + e + j) * u (T + e + j)) e = (- y i) * sm (fun j => u (T + e + j) * pwx (x i) j) e := by
      rw [← sm_mul]
      exact sm_congr fun j hj => by
        unfold rowQ
        rw [if_neg (by omega), if_pos (by omega), show T + e + j - (T + e) = j by omega]; grind
    rw [e1, e2]; grind
  have rhs : ∀ i, rowQ x y T e i (T + e + e) = y i * pwx (x i) e := fun i => by unfold rowQ; rw [if_neg (by omega), if_neg (by omega)]
  constructor
  · intro h i hi
    have q := h i hi
    rw [key, rhs] at q
    have : pe u (x i) 0 (T + e) = y i * pwx (x i) e + y i * pe (fun j => u (T + e + j)) (x i) 0 e := by rw [← q]; grind
    rw [this]; grind
  · intro h i hi
    rw [key, rhs, h i hi]; grind
/-- A polynomial of degree m with 1 in front. -/
def Mn (h : Fin n → Fin n) (m : Nat) : Prop := ∃ g, Isp g m ∧ ∀ z, h z = g z + pwx z m
theorem Mn.one : Mn (fun _ : Fin n => 1) 0 := ⟨fun _ => 0, ⟨fun _ => 0, fun _ _ => rfl, fun _ => rfl⟩, fun z => by show (1 : Fin n) = 0 + 1; grind⟩
theorem Mn.lin {h : Fin n → Fin n} {m : Nat} (q : Mn h m) (a : Fin n) : Mn (fun z => h z * (z - a)) (m + 1) := by
  obtain ⟨g, hg, hz⟩ := q
  refine ⟨fun z => g z * (z - a) + (-a) * pwx z m, (hg.lin a).add ((Isp.pwx m).mul (-a)), fun z => ?_⟩
  show h z * (z - a) = g z * (z - a) + (-a) * pwx z m + pwx z m * z
  rw [hz z]; grind
theorem Mn.pdw (x : Nat → Fin n) (b : Nat → Bool) : ∀ k, Mn (fun z => Q.pdw x b z k) (cnt b k)
  | 0 => Mn.one
  | k + 1 => by
    have ih := Mn.pdw x b k
    rw [cnt_s]
    by_cases h : b k = true
    · rw [if_pos h]
      have q := ih.lin (x k)
      obtain ⟨g, hg, hz⟩ := q
      refine ⟨g, hg, fun z => ?_⟩
      rw [← hz z]
      show Q.pdw x b z k * (if b k = true then z - x k else 1) = _
      rw [if_pos h]
    · rw [if_neg h]
      obtain ⟨g, hg, hz⟩ := ih
      refine ⟨g, hg, fun z => ?_⟩
      have q : Q.pdw x b z k = g z + pwx z (cnt b k) := hz z
      show Q.pdw x b z k * (if b k = true then z - x k else 1) = g z + pwx z (cnt b k)
      rw [if_neg h, q]; grind
theorem Mn.more {h : Fin n → Fin n} {m : Nat} (q : Mn h m) : ∀ r, Mn (fun z => h z * pwx z r) (m + r)
  | 0 => by
    obtain ⟨g, hg, hz⟩ := q
    exact ⟨g, hg, fun z => by show h z * 1 = g z + pwx z m; rw [← hz z]; grind⟩
  | r + 1 => by
    obtain ⟨g, hg, hz⟩ := (q.more r).lin 0
    exact ⟨g, hg, fun z => by show h z * (pwx z r * z) = g z + pwx z (m + r + 1); rw [← hz z]; grind⟩
theorem Mn.isp {h : Fin n → Fin n} {m : Nat} (q : Mn h m) : Isp h (m + 1) := by
  obtain ⟨g, hg, hz⟩ := q
  exact ((hg.more 1).add (Isp.pwx m)).cong fun z => (hz z).symm
/-- Where a polynomial misses few there is a solution. -/
theorem ref_has {N T e : Nat} (hT : 0 < T) (x y c : Nat → Fin n) (bad : Nat → Bool) (hb : ∀ i, i < N → bad i = false → y i = pe c (x i) 0 T) (hc : cnt bad N ≤ e) : ∃ u, Sol (rowQ x y T e) N (T + e + e) u := by
  have hE := (Mn.pdw x bad N).more (e - cnt bad N)
  rw [show cnt bad N + (e - cnt bad N) = e by omega] at hE
  have hE0 : ∀ i, i < N → bad i = true → Q.pdw x bad (x i) N * pwx (x i) (e - cnt bad N) = 0 := fun i hi hbi => by
    have : Q.pdw x bad (x i) N = 0 := pd_zero (i := i) hi (by rw [if_pos hbi]; grind)
    rw [this]; grind
  obtain ⟨cq, _, hq⟩ := (Isp.of c T).times hE.isp
  obtain ⟨g, ⟨cg, _, hcg⟩, hz⟩ := hE
  refine ⟨fun k => if k < T + e then cq k else cg (k - (T + e)), (sol_iff x y _ N T e).2 fun i hi => ?_⟩
  have e1 : pe (fun k => if k < T + e then cq k else cg (k - (T + e))) (x i) 0 (T + e) = pe cq (x i) 0 (T + e) := pe_congr fun k _ hk => if_pos (by omega)
  have e2 : pe (fun j => if T + e + j < T + e then cq (T + e + j) else cg (T + e + j - (T + e))) (x i) 0 e = pe cg (x i) 0 e := pe_congr fun j _ _ => by rw [if_neg (by omega), show T + e + j - (T + e) = j by omega]
  rw [e1, e2, ← hq (x i), ← hcg (x i), ← hz (x i)]
  show pe c (x i) 0 T * (Q.pdw x bad (x i) N * pwx (x i) (e - cnt bad N)) = y i * (Q.pdw x bad (x i) N * pwx (x i) (e - cnt bad N))
  by_cases hbi : bad i = true
  · rw [hE0 i hi hbi]; grind
  · rw [hb i hi (by simpa using hbi)]
/-- A solution's locator is 0 where a polynomial that misses few is not met. -/
theorem ref_zero (hz : ∀ a b : Fin n, a * b = 0 → a = 0 ∨ b = 0) {N T e : Nat} (hN : T + e + e ≤ N) (x y c u : Nat → Fin n) (hx : ∀ i j, i < N → j < N → x i = x j → i = j) (bad : Nat → Bool) (hb : ∀ i, i < N → bad i = false → y i = pe c (x i) 0 T) (hc : cnt bad N ≤ e)
    (hu : Sol (rowQ x y T e) N (T + e + e) u) : ∀ i, i < N → ¬ y i = pe c (x i) 0 T → pe (fun j => u (T + e + j)) (x i) 0 e + pwx (x i) e = 0 := fun i hi hne => by
  have hs := (sol_iff x y u N T e).1 hu
  have hEi : Isp (fun z => pe (fun j => u (T + e + j)) z 0 e + pwx z e) (e + 1) := ((Isp.of (fun j => u (T + e + j)) e).more 1).add (Isp.pwx e)
  have hD : Isp (fun z => pe u z 0 (T + e) + (-1) * (pe c z 0 T * (pe (fun j => u (T + e + j)) z 0 e + pwx z e))) (T + e) := (Isp.of u (T + e)).add (((Isp.of c T).times hEi).mul (-1))
  have q1 := cnt_not bad N
  obtain ⟨g, g1, g2⟩ := pick (fun j => !bad j) N
  have h0 := hD.zero hz (fun k => x (g k)) (fun a b ha hb2 e2 => g2 a b (by omega) (by omega) (hx _ _ (g1 a (by omega)).1 (g1 b (by omega)).1 e2)) (fun k hk => by
    obtain ⟨a1, a2⟩ := g1 k (by omega)
    show pe u (x (g k)) 0 (T + e) + (-1) * (pe c (x (g k)) 0 T * (pe (fun j => u (T + e + j)) (x (g k)) 0 e + pwx (x (g k)) e)) = 0
    rw [hs _ a1, hb _ a1 (by simpa using a2)]; grind) (x i)
  have h1 : pe u (x i) 0 (T + e) + (-1) * (pe c (x i) 0 T * (pe (fun j => u (T + e + j)) (x i) 0 e + pwx (x i) e)) = 0 := h0
  rw [hs i hi] at h1
  have h2 : (y i - pe c (x i) 0 T) * (pe (fun j => u (T + e + j)) (x i) 0 e + pwx (x i) e) = 0 := by rw [← h1]; grind
  rcases hz _ _ h2 with a | a
  · exact absurd (by grind) hne
  · exact a
end Q
/-- What follows for the first shares at which a locator is not 0. -/
theorem co_fin {d y z : Nat → Int} {N T e : Nat} (h : idE d N = 0) (hyz : haveI := LN_nz; ∀ i, i < N → zq LN (z i) = zq LN (y i)) (hN : T + e ≤ N) {lf : Nat → Int} {m : Nat} (hcz : Q.cnt (fun i => decide (ev (nT lf) (d i) 0 m = 0)) N < e + 1)
    (hB : ∀ f, (stL f T d y N).length ≤ e → ∀ i, i < N → ¬ ev f (d i) 0 T = cn (y i) → ev (nT lf) (d i) 0 m = 0) (l : List (Int × Int)) (hl : clL (nT lf) m d z N = l) :
    T ≤ l.length ∧ (∀ j, j < l.length → ∃ i, i < N ∧ l.getD j (0, 0) = (d i, z i)) ∧ idE (fun j => (l.getD j (0, 0)).1) T = 0 ∧
    ∀ f, (stL f T d y N).length ≤ e → stL (nT (cc (fun j => (l.getD j (0, 0)).1) (fun j => (l.getD j (0, 0)).2) T)) T d y N = stL f T d y N := by
  haveI := LN_nz
  obtain ⟨q1, q2⟩ := idE_zero h
  have hlen := cl_cnt (nT lf) m d z N
  have hnot := Q.cnt_not (fun i => decide (ev (nT lf) (d i) 0 m = 0)) N
  obtain ⟨g, g1, g2⟩ := cl_pick (nT lf) m d z N
  rw [hl] at hlen g1 g2
  have hTl : T ≤ l.length := by omega
  have hid : idE (fun j => (l.getD j (0, 0)).1) T = 0 := idE_mk (fun i hi => by
      show 1 ≤ (l.getD i (0, 0)).1 ∧ (l.getD i (0, 0)).1 ≤ 255
      rw [(g1 i (by omega)).2.1]; exact q1 _ (g1 i (by omega)).1)
    (fun i j hi hj e => by
      have e' : (l.getD i (0, 0)).1 = (l.getD j (0, 0)).1 := e
      rw [(g1 i (by omega)).2.1, (g1 j (by omega)).2.1] at e'
      exact g2 i j (by omega) (by omega) (q2 _ _ (g1 i (by omega)).1 (g1 j (by omega)).1 e'))
  refine ⟨hTl, fun j hj => ⟨g j, (g1 j hj).1, (g1 j hj).2.1⟩, hid, fun f hf => ?_⟩
  have ho := ev_only (X := fun j => (l.getD j (0, 0)).1) (Y := fun j => (l.getD j (0, 0)).2) (N := T) (id_ne hid) f (fun k hk => by
    show ev f (l.getD k (0, 0)).1 0 T = ad (l.getD k (0, 0)).2 0
    obtain ⟨a1, a2, a3⟩ := g1 k (by omega)
    rw [a2]
    have hgood : ev f (d (g k)) 0 T = cn (y (g k)) := by
      by_cases q : ev f (d (g k)) 0 T = cn (y (g k))
      · exact q
      · exact absurd (hB f hf _ a1 q) a3
    rw [hgood]
    unfold ad
    have e2 := zq_eq.1 (hyz _ a1)
    rw [← L_LN] at e2
    rw [Int.add_zero]; exact e2.symm)
  refine stL_cong (fun j hj => ?_) N
  rw [nT_c _ _ (cc_r _ _ T j).1, ← ho j hj]
  unfold ad
  rw [Int.add_zero, Int.emod_emod_of_dvd _ (Int.dvd_refl L)]
end Go.Proofs.YtoafcaieifjoiaaGreat
