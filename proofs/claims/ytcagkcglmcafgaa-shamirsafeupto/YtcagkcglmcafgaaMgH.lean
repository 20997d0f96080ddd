/- Joined: Pol, Nwt, SafeM, ShAt, ShCn, ShR1, ShOp. -/
import Derived.Test.YtcagkcglmcafgaaMgD
import Derived.Test.YtcagkcglmcafgaaSh5
import Derived.Test.YtcagkcglmcafgaaSInvM
import Derived.Test.YtcagkcglmcafgaaSh8
import Derived.Test.YtcagkcglmcafgaaAddsWalk
import Derived.Test.YtcagkcglmcafgaaMgC
import Derived.Test.YtcagkcglmcafgaaRBack
import Derived.Test.YtcagkcglmcafgaaMgE
/- Polynomials over Fin n: values, uniqueness, Lagrange. Abstract; hooks to ev/cc/zv not yet. -/
set_option linter.unusedVariables false
set_option linter.unusedSimpArgs false
set_option linter.unnecessarySimpa false
namespace Go.Proofs.Ytcagkcglmcafgaa.Q
variable {n : Nat} [NeZero n]

/-- The value at x of the m coefficients from place k on. -/
def pe (c : Nat → Fin n) (x : Fin n) : Nat → Nat → Fin n
  | _, 0 => 0
  | k, m + 1 => pe c x (k + 1) m * x + c k
theorem pe_s (c : Nat → Fin n) (x : Fin n) (k m : Nat) : pe c x k (m + 1) = pe c x (k + 1) m * x + c k := rfl
theorem pe_0 (c : Nat → Fin n) (x : Fin n) (k : Nat) : pe c x k 0 = 0 := rfl
theorem pe_congr {c d : Nat → Fin n} {x : Fin n} : ∀ {m k : Nat}, (∀ i, k ≤ i → i < k + m → c i = d i) → pe c x k m = pe d x k m
  | 0, _, _ => rfl
  | m + 1, k, h => by rw [pe_s, pe_s, pe_congr (m := m) (k := k + 1) (fun i h1 h2 => h i (by omega) (by omega)), h k (by omega) (by omega)]
theorem pe_zero {c : Nat → Fin n} {x : Fin n} : ∀ {m k : Nat}, (∀ i, k ≤ i → i < k + m → c i = 0) → pe c x k m = 0
  | 0, _, _ => rfl
  | m + 1, k, h => by rw [pe_s, pe_zero (m := m) (k := k + 1) (fun i h1 h2 => h i (by omega) (by omega)), h k (by omega) (by omega)]; grind
theorem pe_add (c d : Nat → Fin n) (x : Fin n) : ∀ (m k : Nat), pe (fun i => c i + d i) x k m = pe c x k m + pe d x k m
  | 0, _ => by rw [pe_0, pe_0, pe_0]; grind
  | m + 1, k => by rw [pe_s, pe_s, pe_s, pe_add c d x m (k + 1)]; grind
theorem pe_mul (c : Nat → Fin n) (a x : Fin n) : ∀ (m k : Nat), pe (fun i => a * c i) x k m = a * pe c x k m
  | 0, _ => by rw [pe_0, pe_0]; grind
  | m + 1, k => by rw [pe_s, pe_s, pe_mul c a x m (k + 1)]; grind
theorem pe_shift (c : Nat → Fin n) (x : Fin n) : ∀ (m k : Nat), pe (fun i => c (i - 1)) x (k + 1) m = pe c x k m
  | 0, _ => rfl
  | m + 1, k => by rw [pe_s, pe_s, pe_shift c x m (k + 1)]; rfl
/-- More coefficients, which are 0. -/
theorem pe_more {c : Nat → Fin n} {x : Fin n} : ∀ {m k : Nat} (p : Nat), (∀ i, k + m ≤ i → c i = 0) → pe c x k (m + p) = pe c x k m
  | 0, k, p, h => by rw [Nat.zero_add, pe_0]; exact pe_zero (fun i h1 _ => h i (by omega))
  | m + 1, k, p, h => by rw [Nat.add_right_comm, pe_s, pe_s, pe_more (m := m) (k := k + 1) p (fun i hi => h i (by omega))]
/-- Division by (X - a). -/
theorem pe_div (c : Nat → Fin n) (x a : Fin n) : ∀ (m k : Nat), pe c x k (m + 1) - pe c a k (m + 1) = (x - a) * pe (fun i => pe c a (i + 1) (k + m - i)) x k m
  | 0, k => by rw [pe_s, pe_s, pe_0, pe_0, pe_0]; grind
  | m + 1, k => by
    have h := pe_div c x a m (k + 1)
    rw [pe_s c x k, pe_s c a k, pe_s _ x k]
    have e : (fun i => pe c a (i + 1) (k + 1 + m - i)) = fun i => pe c a (i + 1) (k + (m + 1) - i) := by funext i; rw [show k + 1 + m - i = k + (m + 1) - i by omega]
    rw [e] at h
    have e2 : pe c a (k + 1) (k + (m + 1) - k) = pe c a (k + 1) (m + 1) := by rw [show k + (m + 1) - k = m + 1 by omega]
    rw [e2]
    grind
/-- m distinct zeros of m coefficients: they are all 0. -/
theorem pe_roots (hz : ∀ a b : Fin n, a * b = 0 → a = 0 ∨ b = 0) : ∀ (m : Nat) (c x : Nat → Fin n), (∀ i j, i < m → j < m → x i = x j → i = j) → (∀ i, i < m → pe c (x i) 0 m = 0) → ∀ i, i < m → c i = 0
  | 0, _, _, _, _ => fun i hi => by omega
  | m + 1, c, x, hx, h0 => by
    have hd : ∀ i, i < m → pe (fun i => pe c (x m) (i + 1) (m - i)) (x i) 0 m = 0 := fun i hi => by
      have h := pe_div c (x i) (x m) m 0
      rw [h0 i (by omega), h0 m (by omega)] at h
      have h2 : (x i - x m) * pe (fun i => pe c (x m) (i + 1) (0 + m - i)) (x i) 0 m = 0 := by rw [← h]; grind
      simp only [Nat.zero_add] at h2
      rcases hz _ _ h2 with h3 | h3
      · exact absurd (hx i m (by omega) (by omega) (by grind)) (by omega)
      · exact h3
    have hq := pe_roots hz m _ x (fun i j hi hj => hx i j (by omega) (by omega)) hd
    have hq' : ∀ i, i ≤ m → pe c (x m) (i + 1) (m - i) = 0 := fun i hi => by
      by_cases h : i < m
      · exact hq i h
      · rw [show m - i = 0 by omega]; rfl
    intro i hi
    rcases i with _ | i
    · have h := h0 m (by omega)
      rw [pe_s] at h
      have h2 := hq' 0 (by omega)
      rw [Nat.sub_zero] at h2
      rw [h2] at h
      grind
    · have h := hq' i (by omega)
      rw [show m - i = (m - (i + 1)) + 1 by omega, pe_s, hq' (i + 1) (by omega)] at h
      grind
theorem pe_unique (hz : ∀ a b : Fin n, a * b = 0 → a = 0 ∨ b = 0) (m : Nat) (c d x : Nat → Fin n) (hx : ∀ i j, i < m → j < m → x i = x j → i = j) (h : ∀ i, i < m → pe c (x i) 0 m = pe d (x i) 0 m) : ∀ i, i < m → c i = d i := fun i hi => by
  have e : ∀ y, pe (fun i => c i + (-1) * d i) y 0 m = pe c y 0 m - pe d y 0 m := fun y => by rw [pe_add, pe_mul]; grind
  have := pe_roots hz m (fun i => c i + (-1) * d i) x hx (fun i hi => by rw [e, h i hi]; grind) i hi
  grind

/-! ### Functions that are polynomials -/
/-- h is a polynomial of m coefficients. -/
def Isp (h : Fin n → Fin n) (m : Nat) : Prop := ∃ c : Nat → Fin n, (∀ i, m ≤ i → c i = 0) ∧ ∀ x, h x = pe c x 0 m
theorem Isp.of (c : Nat → Fin n) (m : Nat) : Isp (fun x => pe c x 0 m) m := ⟨fun i => if i < m then c i else 0, fun i hi => by simp; omega, fun x => pe_congr fun i _ h => by simp at h; simp [h]⟩
theorem Isp.const (a : Fin n) : Isp (fun _ => a) 1 := ⟨fun i => if i = 0 then a else 0, fun i hi => by simp; omega, fun x => by rw [pe_s, pe_0]; simp; grind⟩
theorem Isp.more {h : Fin n → Fin n} {m : Nat} (q : Isp h m) (p : Nat) : Isp h (m + p) := by
  obtain ⟨c, h1, h2⟩ := q
  exact ⟨c, fun i hi => h1 i (by omega), fun x => by rw [h2, pe_more p (fun i hi => h1 i (by omega))]⟩
theorem Isp.add {h g : Fin n → Fin n} {m : Nat} (q : Isp h m) (r : Isp g m) : Isp (fun x => h x + g x) m := by
  obtain ⟨c, h1, h2⟩ := q
  obtain ⟨d, g1, g2⟩ := r
  exact ⟨fun i => c i + d i, fun i hi => by show c i + d i = 0; rw [h1 i hi, g1 i hi]; grind, fun x => by show h x + g x = _; rw [pe_add, h2, g2]⟩
theorem Isp.mul {h : Fin n → Fin n} {m : Nat} (q : Isp h m) (a : Fin n) : Isp (fun x => a * h x) m := by
  obtain ⟨c, h1, h2⟩ := q
  exact ⟨fun i => a * c i, fun i hi => by show a * c i = 0; rw [h1 i hi]; grind, fun x => by show a * h x = _; rw [pe_mul, h2]⟩
theorem pe_x (c : Nat → Fin n) (x : Fin n) (m : Nat) : pe (fun i => if i = 0 then 0 else c (i - 1)) x 0 (m + 1) = pe c x 0 m * x := by
  rw [pe_s, if_pos rfl, pe_congr (d := fun i => c (i - 1)) (fun i h1 _ => by rw [if_neg (by omega)]), pe_shift]
  grind
theorem Isp.lin {h : Fin n → Fin n} {m : Nat} (q : Isp h m) (a : Fin n) : Isp (fun x => h x * (x - a)) (m + 1) := by
  have q0 := (q.more 1).mul (-a)
  obtain ⟨c, h1, h2⟩ := q
  have r : Isp (fun x => pe c x 0 m * x) (m + 1) := ⟨fun i => if i = 0 then 0 else c (i - 1), fun i hi => by show (if i = 0 then 0 else c (i - 1)) = 0; rw [if_neg (by omega)]; exact h1 _ (by omega), fun x => (pe_x c x m).symm⟩
  obtain ⟨d, g1, g2⟩ := r.add q0
  exact ⟨d, g1, fun x => by rw [← g2]; simp only [h2]; grind⟩
theorem Isp.zero (hz : ∀ a b : Fin n, a * b = 0 → a = 0 ∨ b = 0) {h : Fin n → Fin n} {m : Nat} (q : Isp h m) (x : Nat → Fin n) (hx : ∀ i j, i < m → j < m → x i = x j → i = j) (h0 : ∀ i, i < m → h (x i) = 0) : ∀ y, h y = 0 := by
  obtain ⟨c, h1, h2⟩ := q
  have hc := pe_roots hz m c x hx (fun i hi => by rw [← h2]; exact h0 i hi)
  intro y
  rw [h2]
  exact pe_zero fun i _ hi => hc i (by omega)
theorem Isp.same (hz : ∀ a b : Fin n, a * b = 0 → a = 0 ∨ b = 0) {h g : Fin n → Fin n} {m : Nat} (q : Isp h m) (r : Isp g m) (x : Nat → Fin n) (hx : ∀ i j, i < m → j < m → x i = x j → i = j) (h0 : ∀ i, i < m → h (x i) = g (x i)) : ∀ y, h y = g y := fun y => by
  have := (q.add (r.mul (-1))).zero hz x hx (fun i hi => by rw [h0 i hi]; grind) y
  grind

/-! ### Sums and products -/
def sm (f : Nat → Fin n) : Nat → Fin n
  | 0 => 0
  | k + 1 => sm f k + f k
def pd (f : Nat → Fin n) : Nat → Fin n
  | 0 => 1
  | k + 1 => pd f k * f k
theorem sm_congr {f g : Nat → Fin n} : ∀ {k : Nat}, (∀ i, i < k → f i = g i) → sm f k = sm g k
  | 0, _ => rfl
  | k + 1, h => by unfold sm; rw [sm_congr (fun i hi => h i (by omega)), h k (by omega)]
theorem pd_congr {f g : Nat → Fin n} : ∀ {k : Nat}, (∀ i, i < k → f i = g i) → pd f k = pd g k
  | 0, _ => rfl
  | k + 1, h => by unfold pd; rw [pd_congr (fun i hi => h i (by omega)), h k (by omega)]
theorem pd_zero {f : Nat → Fin n} : ∀ {k i : Nat}, i < k → f i = 0 → pd f k = 0
  | k + 1, i, hi, h => by
    unfold pd
    by_cases h2 : i = k
    · rw [← h2, h]; grind
    · rw [pd_zero (show i < k by omega) h]; grind
theorem pd_ne (hz : ∀ a b : Fin n, a * b = 0 → a = 0 ∨ b = 0) (h1 : (1 : Fin n) ≠ 0) {f : Nat → Fin n} : ∀ {k : Nat}, (∀ i, i < k → f i ≠ 0) → pd f k ≠ 0
  | 0, _ => h1
  | k + 1, h => fun h2 => by
    unfold pd at h2
    rcases hz _ _ h2 with h3 | h3
    · exact pd_ne hz h1 (fun i hi => h i (by omega)) h3
    · exact h k (by omega) h3
theorem sm_one {f : Nat → Fin n} : ∀ {k i : Nat}, i < k → (∀ j, j < k → j ≠ i → f j = 0) → sm f k = f i
  | k + 1, i, hi, h => by
    unfold sm
    by_cases h2 : i = k
    · subst h2
      rw [sm_congr (g := fun _ => 0) (fun j hj => h j (by omega) (by omega))]
      have : ∀ m, sm (fun _ => (0 : Fin n)) m = 0 := fun m => by
        induction m with
        | zero => rfl
        | succ m ih => unfold sm; rw [ih]; grind
      rw [this]; grind
    · rw [sm_one (show i < k by omega) (fun j hj => h j (by omega)), h k (by omega) (by omega)]; grind
/-- The product over all places below k but i. -/
def pdx (f : Nat → Fin n) (i k : Nat) : Fin n := pd (fun j => if j = i then 1 else f j) k
theorem Isp.pd (x : Nat → Fin n) : ∀ k, Isp (fun y => Q.pd (fun j => y - x j) k) (k + 1)
  | 0 => Isp.const 1
  | k + 1 => (Isp.pd x k).lin (x k)
theorem Isp.pdx (x : Nat → Fin n) (i : Nat) : ∀ k, i < k → Isp (fun y => Q.pdx (fun j => y - x j) i k) k
  | k + 1, hi => by
    unfold Q.pdx
    by_cases h : i = k
    · have q := Isp.pd x k
      obtain ⟨c, h1, h2⟩ := q
      refine ⟨c, h1, fun y => ?_⟩
      rw [← h2]
      show Q.pd _ k * (if k = i then 1 else y - x k) = Q.pd (fun j => y - x j) k
      rw [if_pos h.symm, pd_congr (g := fun j => y - x j) (fun j hj => by rw [if_neg (by omega)])]
      grind
    · have q := (Isp.pdx x i k (by omega)).lin (x k)
      obtain ⟨c, h1, h2⟩ := q
      refine ⟨c, h1, fun y => ?_⟩
      rw [← h2]
      show Q.pd _ k * (if k = i then 1 else y - x k) = Q.pdx (fun j => y - x j) i k * (y - x k)
      rw [if_neg (by omega)]
      rfl
theorem Isp.sm {m : Nat} (f : Nat → Fin n → Fin n) : ∀ k, (∀ i, i < k → Isp (f i) m) → Isp (fun y => Q.sm (fun i => f i y) k) m
  | 0, _ => ⟨fun _ => 0, fun _ _ => rfl, fun x => (pe_zero fun _ _ _ => rfl).symm⟩
  | k + 1, h => (Isp.sm f k (fun i hi => h i (by omega))).add (h k (by omega))
/-- Lagrange: weights w with w i * (product of x i's distances) = 1. -/
theorem lagrange (hz : ∀ a b : Fin n, a * b = 0 → a = 0 ∨ b = 0) {m : Nat} (x w : Nat → Fin n) (hx : ∀ i j, i < m → j < m → x i = x j → i = j) (hw : ∀ i, i < m → w i * pdx (fun j => x i - x j) i m = 1) {g : Fin n → Fin n} (q : Isp g m) (y : Fin n) :
    sm (fun i => w i * pdx (fun j => y - x j) i m * g (x i)) m = g y := by
  have r : Isp (fun y => sm (fun i => w i * g (x i) * pdx (fun j => y - x j) i m) m) m := Isp.sm (fun i y => w i * g (x i) * pdx (fun j => y - x j) i m) m fun i hi => (Isp.pdx x i m hi).mul _
  have s := r.same hz q x hx (fun k hk => by
    rw [sm_one (i := k) hk (fun j hj hne => ?_)]
    · have := hw k hk; grind
    · have h0 : pdx (fun j => x k - x j) j m = 0 := pd_zero (i := k) hk (by rw [if_neg (fun h => hne h.symm)]; grind)
      rw [h0]; grind) y
  rw [← s]
  exact sm_congr fun i _ => by grind
end Go.Proofs.Ytcagkcglmcafgaa.Q

/- Newton's polynomial goes through its points. -/
set_option linter.unusedVariables false
set_option linter.unusedSimpArgs false
set_option linter.unnecessarySimpa false
namespace Go.Proofs.Ytcagkcglmcafgaa
open Go.RowKit N

/-- A number modulo n. -/
def zq (n : Nat) [NeZero n] (x : Int) : Fin n := Fin.ofNat n (x % (n : Int)).toNat
section
variable {n : Nat} [NeZero n]
theorem n_pos : (0 : Int) < (n : Int) := by have := NeZero.ne n; omega
theorem zq_val (x : Int) : (((zq n x).val : Nat) : Int) = x % (n : Int) := by
  have h := n_pos (n := n)
  have h1 := Int.emod_nonneg x (show (n : Int) ≠ 0 by omega)
  have h2 := Int.emod_lt_of_pos x h
  show (((x % (n : Int)).toNat % n : Nat) : Int) = _
  rw [Nat.mod_eq_of_lt (by omega)]
  omega
theorem zq_eq {x y : Int} : zq n x = zq n y ↔ x % (n : Int) = y % (n : Int) := by
  rw [← zq_val x, ← zq_val y]
  constructor
  · intro h; rw [h]
  · intro h; exact Fin.ext (by omega)
theorem zq_mod (x : Int) : zq n (x % (n : Int)) = zq n x := zq_eq.2 (Int.emod_emod_of_dvd _ (Int.dvd_refl _))
theorem zq_add (x y : Int) : zq n (x + y) = zq n x + zq n y := by
  apply Fin.ext
  have h : (((zq n x + zq n y).val : Nat) : Int) = (((zq n (x + y)).val : Nat) : Int) := by
    rw [Fin.val_add, Int.natCast_emod, Int.natCast_add, zq_val, zq_val, zq_val, ← Int.add_emod]
  omega
theorem zq_mul (x y : Int) : zq n (x * y) = zq n x * zq n y := by
  apply Fin.ext
  have h : (((zq n x * zq n y).val : Nat) : Int) = (((zq n (x * y)).val : Nat) : Int) := by
    rw [Fin.val_mul, Int.natCast_emod, Int.natCast_mul, zq_val, zq_val, zq_val, ← Int.mul_emod]
  omega
theorem zq_0 : zq n 0 = 0 := by
  apply Fin.ext
  have h := zq_val (n := n) 0
  rw [Int.zero_emod] at h
  have h2 : ((0 : Fin n).val) = 0 := by simp
  omega
theorem zq_1 : zq n 1 = 1 := by
  apply Fin.ext
  have h := zq_val (n := n) 1
  have h2 : ((1 : Fin n).val) = 1 % n := rfl
  have h3 : ((1 % n : Nat) : Int) = 1 % (n : Int) := Int.natCast_emod 1 n
  rw [h2]
  omega
theorem zq_sub (x y : Int) : zq n (x - y) = zq n x - zq n y := by
  have h := zq_add (n := n) (x - y) y
  rw [Int.sub_add_cancel] at h
  grind
theorem zq_neg (x : Int) : zq n (-x) = - zq n x := by
  have h := zq_sub (n := n) 0 x
  rw [Int.zero_sub, zq_0] at h
  grind
end
section
variable {n : Nat} [NeZero n] (hn : L = (n : Int))
include hn
theorem zq_L (x : Int) : zq n (x % L) = zq n x := by rw [hn]; exact zq_mod x
theorem zq_ma (a b c : Int) : zq n (ma a b c) = zq n a * zq n b + zq n c := by unfold ma; rw [zq_L hn, zq_add, zq_mul]
theorem zq_ml (a b : Int) : zq n (ml a b) = zq n a * zq n b := by unfold ml; rw [zq_L hn, zq_mul]
theorem zq_sb (a b : Int) : zq n (sb a b) = zq n a - zq n b := by unfold sb; rw [zq_L hn, zq_sub]
theorem zq_ng (a : Int) : zq n (ng a) = - zq n a := by unfold ng; rw [zq_L hn, zq_neg]
theorem zq_ev (f : Nat → Nat) (x : Int) : ∀ m k, zq n (ev f x k m) = Q.pe (fun j => zq n ((f j : Nat) : Int)) (zq n x) k m
  | 0, _ => zq_0
  | m + 1, k => by
    show zq n (ma (ev f x (k + 1) m) x ((f k : Nat) : Int)) = _
    rw [zq_ma hn, zq_ev f x m (k + 1), Q.pe_s]
theorem zq_wz (f : Nat → Nat) (x : Int) (N : Nat) (y : Fin n) : Q.pe (fun j => zq n (wz f x N j)) y 0 (N + 1) = Q.pe (fun j => zq n ((f j : Nat) : Int)) y 0 N * (y - zq n x) := by
  have e : Q.pe (fun j => zq n (wz f x N j)) y 0 (N + 1) = Q.pe (fun j => (- zq n x) * (if j < N then zq n ((f j : Nat) : Int) else 0) + (if j = 0 then 0 else zq n ((f (j - 1) : Nat) : Int))) y 0 (N + 1) := by
    refine Q.pe_congr fun j _ hj => ?_
    have hp : zq n (pv f j) = if j = 0 then 0 else zq n ((f (j - 1) : Nat) : Int) := by
      unfold pv
      by_cases h : j = 0
      · rw [if_pos h, if_pos h, zq_0]
      · rw [if_neg h, if_neg h]
    show zq n (wz f x N j) = _
    unfold wz
    by_cases h : j < N
    · rw [if_pos h, if_pos h, zq_ma hn, zq_ng hn, hp]
    · rw [if_neg h, if_neg h, hp]; grind
  rw [e, Q.pe_add, Q.pe_mul, Q.pe_x (fun j => zq n ((f j : Nat) : Int)) y N]
  have e2 : Q.pe (fun j => if j < N then zq n ((f j : Nat) : Int) else 0) y 0 (N + 1) = Q.pe (fun j => zq n ((f j : Nat) : Int)) y 0 N := by
    rw [Q.pe_more 1 (fun i hi => if_neg (by omega))]
    exact Q.pe_congr fun i _ hi => if_pos (by omega)
  rw [e2]
  grind
theorem zq_zz (X : Nat → Int) (y : Fin n) : ∀ i, Q.pe (fun j => zq n (zz X i j)) y 0 (i + 1) = Q.pd (fun j => y - zq n (X j)) i
  | 0 => by
    show Q.pe (fun _ => zq n 1) y 1 0 * y + zq n 1 = 1
    rw [Q.pe_0, zq_1]; grind
  | i + 1 => by
    show Q.pe (fun j => zq n (wz (nT (zz X i)) (X i) (i + 1) j)) y 0 (i + 1 + 1) = Q.pd (fun j => y - zq n (X j)) i * (y - zq n (X i))
    rw [zq_wz hn, ← zq_zz X y i]
    congr 1
    exact Q.pe_congr fun j _ hj => by rw [nT_c _ _ (zz_r X i j (by omega)).1]
theorem zq_zv (X : Nat → Int) (i : Nat) : zq n (zv X i) = Q.pd (fun j => zq n (X i) - zq n (X j)) i := by
  unfold zv
  rw [zq_ev hn, ← zq_zz hn X (zq n (X i)) i]
  exact Q.pe_congr fun j _ hj => by rw [nT_c _ _ (zz_r X i j (by omega)).1]
omit hn in
theorem cc_hi (X Y : Nat → Int) : ∀ i j, i ≤ j → cc X Y i j = 0
  | 0, _, _ => rfl
  | i + 1, j, h => by
    show (if j < i + 1 then _ else cc X Y i j) = 0
    rw [if_neg (by omega)]; exact cc_hi X Y i j (by omega)
theorem zq_cc (X Y : Nat → Int) (i : Nat) (y : Fin n) : Q.pe (fun j => zq n (cc X Y (i + 1) j)) y 0 (i + 1) = Q.pe (fun j => zq n (cc X Y i j)) y 0 i + zq n (fac X Y i) * Q.pd (fun j => y - zq n (X j)) i := by
  have e : Q.pe (fun j => zq n (cc X Y (i + 1) j)) y 0 (i + 1) = Q.pe (fun j => zq n (fac X Y i) * zq n (zz X i j) + zq n (cc X Y i j)) y 0 (i + 1) := by
    refine Q.pe_congr fun j _ hj => ?_
    show zq n (if j < i + 1 then ma (fac X Y i) (zz X i j) (cc X Y i j) else cc X Y i j) = _
    rw [if_pos (by omega), zq_ma hn]
  rw [e, Q.pe_add, Q.pe_mul, zq_zz hn, Q.pe_more 1 (fun j hj => by rw [cc_hi X Y i j (by omega), zq_0])]
  grind
theorem zq_fac (X Y : Nat → Int) (i : Nat) (h : ¬ zv X i = 0) : zq n (fac X Y i) * zq n (zv X i) = zq n (Y i) - Q.pe (fun j => zq n (cc X Y i j)) (zq n (X i)) 0 i := by
  have hz := zv_rl X i
  obtain ⟨m, hm⟩ := Int.eq_ofNat_of_zero_le hz.1
  have hd : ¬ LN ∣ m := fun hd => by
    have h1 : (m : Int) < L := by have := hz.2; rw [hm] at this; exact this
    have h2 : m < LN := by have := LN_eq; omega
    have := Nat.eq_zero_of_dvd_of_lt hd h2
    subst this
    exact h hm
  have hi := iv_mul m hd
  have h1 : zq n (iv (zv X i)) * zq n (zv X i) = 1 := by
    rw [← zq_mul, ← zq_L hn, hm]
    rw [hm] at *
    rw [hi, zq_1]
  unfold fac
  rw [zq_ml hn, zq_sb hn, zq_ev hn]
  have e : Q.pe (fun j => zq n ((nT (cc X Y i) j : Nat) : Int)) (zq n (X i)) 0 i = Q.pe (fun j => zq n (cc X Y i j)) (zq n (X i)) 0 i := Q.pe_congr fun j _ _ => by rw [nT_c _ _ (cc_r X Y i j).1]
  rw [e]
  grind
/-- Newton's polynomial goes through its points. -/
theorem newton (X Y : Nat → Int) : ∀ N, (∀ j, j < N → ¬ zv X j = 0) → ∀ k, k < N → Q.pe (fun j => zq n (cc X Y N j)) (zq n (X k)) 0 N = zq n (Y k)
  | 0, _, k, hk => by omega
  | N + 1, h, k, hk => by
    rw [zq_cc hn]
    by_cases e : k = N
    · subst e
      rw [← zq_zv hn, zq_fac hn X Y k (h k (by omega))]
      grind
    · rw [newton X Y N (fun j hj => h j (by omega)) k (by omega), Q.pd_zero (i := k) (by omega) (by grind)]
      grind
omit hn in
theorem zq_nat (a : Fin n) : zq n ((a.val : Nat) : Int) = a := by
  apply Fin.ext
  have h := zq_val (n := n) ((a.val : Nat) : Int)
  have h2 : ((a.val : Nat) : Int) % (n : Int) = ((a.val : Nat) : Int) := Int.emod_eq_of_lt (by omega) (by have := a.isLt; omega)
  omega
theorem zq_dom (a b : Fin n) (h : a * b = 0) : a = 0 ∨ b = 0 := by
  by_cases h0 : a = 0
  · exact Or.inl h0
  · right
    have hd : ¬ LN ∣ a.val := fun hd => by
      have h2 : a.val < LN := by have := a.isLt; have := LN_eq; omega
      have h3 := Nat.eq_zero_of_dvd_of_lt hd h2
      exact h0 (Fin.ext (by rw [h3]; simp))
    have hi := iv_mul a.val hd
    have h1 : zq n (iv ((a.val : Nat) : Int)) * a = 1 := by
      have e : zq n (iv ((a.val : Nat) : Int) * ((a.val : Nat) : Int)) = 1 := by rw [← zq_L hn, hi, zq_1]
      rw [zq_mul, zq_nat] at e
      exact e
    have : b = zq n (iv ((a.val : Nat) : Int)) * a * b := by rw [h1]; grind
    rw [this]
    grind
theorem zq_is0 {x : Int} (h : RL x) : zq n x = 0 ↔ x = 0 := by
  constructor
  · intro e
    rw [← zq_0 (n := n), zq_eq, Int.zero_emod, Int.emod_eq_of_lt h.1 (by have := h.2; rw [← hn]; exact this)] at e
    exact e
  · intro e; rw [e, zq_0]
theorem zv_apart {X : Nat → Int} {N : Nat} (h : ∀ j, j < N → ¬ zv X j = 0) : ∀ i j, i < N → j < N → zq n (X i) = zq n (X j) → i = j := by
  have q : ∀ i j, i < N → j < i → ¬ zq n (X i) = zq n (X j) := fun i j hi hj e => by
    refine h i hi ((zq_is0 hn (zv_rl X i)).1 ?_)
    rw [zq_zv hn]
    exact Q.pd_zero (i := j) hj (by rw [e]; grind)
  intro i j hi hj e
  by_cases h1 : j < i
  · exact absurd e (q i j hi h1)
  · by_cases h2 : i < j
    · exact absurd e.symm (q j i hj h2)
    · omega
theorem zv_ne {X : Nat → Int} {i : Nat} (h1 : (1 : Fin n) ≠ 0) (h : ∀ j, j < i → ¬ zq n (X i) = zq n (X j)) : ¬ zv X i = 0 := fun e => by
  have q := (zq_is0 hn (zv_rl X i)).2 e
  rw [zq_zv hn] at q
  exact Q.pd_ne (zq_dom hn) h1 (fun j hj => fun e => h j hj (by grind)) q
/-- And no other does. -/
theorem newton_one {X Y : Nat → Int} {N : Nat} (h : ∀ j, j < N → ¬ zv X j = 0) (f : Nat → Nat) (hf : ∀ k, k < N → zq n (ev f (X k) 0 N) = zq n (Y k)) : ∀ j, j < N → zq n ((f j : Nat) : Int) = zq n (cc X Y N j) :=
  Q.pe_unique (zq_dom hn) N (fun j => zq n ((f j : Nat) : Int)) (fun j => zq n (cc X Y N j)) (fun k => zq n (X k)) (zv_apart hn h) (fun k hk => by
    have e := hf k hk
    rw [zq_ev hn] at e
    rw [newton hn X Y N h k hk]
    exact e)
end
end Go.Proofs.Ytcagkcglmcafgaa

/- ShamirSafe: one polynomial, and no other. -/
set_option linter.unusedVariables false
set_option linter.unusedSimpArgs false
set_option linter.unnecessarySimpa false
namespace Go.Proofs.Ytcagkcglmcafgaa
open Go.RowKit N

theorem rl_z : RL 0 := ⟨by decide, by decide⟩
theorem cc_rl (X Y : Nat → Int) : ∀ i j, RL (cc X Y i j)
  | 0, _ => rl_z
  | i + 1, j => by
    unfold cc
    by_cases h : j < i + 1
    · simp only [if_pos h]; exact rl_mod _
    · simp only [if_neg h]; exact cc_rl X Y i j
theorem LN_nz : NeZero LN := ⟨by unfold LN; decide⟩
theorem L_LN : L = (LN : Int) := LN_eq.symm
/-- The places: 0, and the shares'. -/
def sfX (d : Nat → Int) : Nat → Int := fun j => if j = 0 then 0 else d (j - 1)
def sfY (s : Int) (y : Nat → Int) : Nat → Int := fun j => if j = 0 then s else y (j - 1)
theorem sfX_s (d : Nat → Int) (j : Nat) : sfX d (j + 1) = d j := by unfold sfX; rw [if_neg (by omega), Nat.add_sub_cancel]
theorem sfY_s (s : Int) (y : Nat → Int) (j : Nat) : sfY s y (j + 1) = y j := by unfold sfY; rw [if_neg (by omega), Nat.add_sub_cancel]
theorem mod_id {x : Int} (h : RL x) : x % L = x := Int.emod_eq_of_lt h.1 (by have := h.2; unfold L; exact this)
theorem small_rl {x : Int} (h : 0 ≤ x ∧ x ≤ 255) : RL x := ⟨h.1, by omega⟩
/-- No two of the places are one. -/
theorem sf_ne {d : Nat → Int} {N : Nat} (h : idE d N = 0) : ∀ j, j < N + 1 → ¬ zv (sfX d) j = 0 := fun j hj => by
  haveI := LN_nz
  obtain ⟨q1, q2⟩ := idE_zero h
  have hr : ∀ i, i < N + 1 → RL (sfX d i) := fun i hi => by
    rcases i with _ | i
    · exact rl_z
    · rw [sfX_s]; have := q1 i (by omega); exact small_rl (by omega)
  refine zv_ne (n := LN) L_LN ?_ (fun i hi e => ?_)
  · intro e
    have h1 := (zq_is0 (n := LN) L_LN (x := 1) ⟨by decide, by decide⟩).1 (by rw [zq_1]; exact e)
    omega
  · have e2 := zq_eq.1 e
    rw [← L_LN, mod_id (hr j hj), mod_id (hr i (by omega))] at e2
    rcases i with _ | i
    · rcases j with _ | j
      · omega
      · rw [sfX_s] at e2
        have := q1 j (by omega)
        unfold sfX at e2
        rw [if_pos rfl] at e2
        omega
    · rcases j with _ | j
      · omega
      · rw [sfX_s, sfX_s] at e2
        have := q2 j i (by omega) (by omega) e2
        omega
theorem ev_cc {X Y : Nat → Int} {N : Nat} (h : ∀ j, j < N → ¬ zv X j = 0) {k : Nat} (hk : k < N) : ev (nT (cc X Y N)) (X k) 0 N = ad (Y k) 0 := by
  haveI := LN_nz
  have e : zq LN (ev (nT (cc X Y N)) (X k) 0 N) = zq LN (Y k) := by
    rw [zq_ev L_LN, ← newton L_LN X Y N h k hk]
    exact Q.pe_congr fun j _ _ => by rw [nT_c _ _ (cc_r X Y N j).1]
  have e2 := zq_eq.1 e
  rw [← L_LN, mod_id (ev_rl _ _ _ _)] at e2
  unfold ad
  rw [e2, Int.add_zero]
/-- A polynomial with the same values is the same. -/
theorem ev_only {X Y : Nat → Int} {N : Nat} (h : ∀ j, j < N → ¬ zv X j = 0) (f : Nat → Nat) (hf : ∀ k, k < N → ev f (X k) 0 N = ad (Y k) 0) : ∀ j, j < N → ad ((f j : Nat) : Int) 0 = cc X Y N j := fun j hj => by
  haveI := LN_nz
  have e := newton_one (n := LN) (X := X) (Y := Y) L_LN h f (fun k hk => by
    rw [hf k hk]
    unfold ad
    rw [Int.add_zero]
    exact zq_L L_LN _) j hj
  have e2 := zq_eq.1 e
  rw [← L_LN, mod_id (cc_rl X Y N j)] at e2
  unfold ad
  rw [Int.add_zero]
  exact e2
end Go.Proofs.Ytcagkcglmcafgaa

/- shamir.At. -/
set_option linter.unusedVariables false
set_option linter.unusedSimpArgs false
set_option linter.unnecessarySimpa false
namespace Go.Proofs.Ytcagkcglmcafgaa
open Go.RowKit N

/-- What At answers. -/
def atV (f : Nat → Nat) (N : Nat) (d : Int) : Int := if okI d then ev f d 0 N else 0
def atE (d : Int) : Int := if okI d then 0 else 4
set_option maxHeartbeats 8000000 in
set_option maxRecDepth 100000 in
theorem At_s (v : Value) (N : Nat) (f : Nat → Nat) (hN : N ≤ 4611686018427387904) (d : Int) (w : World) (hL : Ls w v N f) :
    Calls Try.prog 13 #[v, .int .i64 d] w fun e w' => e = .returned (.tuple #[fe (atV f N d), .int .i64 (atE d)]) ∧ Chg w w' [] := by
  unfold atV atE
  by_cases h : 1 ≤ d ∧ d ≤ 255
  · have ho := okI_t h
    have HP : Hid (0 ≤ d ∧ d < 9223372036854775808) := by show 0 ≤ d ∧ d < 9223372036854775808; omega
    have HR : Hid (R256 d) := by show R256 d; unfold R256; omega
    rw [ho, if_pos rfl, if_pos rfl]
    clear h
    go_enter Try.func13, Try.ntmps13
    go_wp2_with (first
      | (with_reducible refine alloc_w rfl 24 rfl (.agg z32) zeroSc z32 rfl ?_; intro rb w2 hrb Br k2)
      | (go_at_call 28; refine (isID_s _ _).mono ?_; rintro e w' ⟨rfl, rfl⟩; rw [ho]))
    refine (place_s d HP.out _).mono ?_
    rintro e w3 ⟨rfl, k3⟩
    go_wp2_with fail
    refine (Eval_s v N f hN d HR.out _ ((hL.chg0 k2).chg0 k3)).mono ?_
    rintro e w4 ⟨rfl, k4⟩
    go_wp2_with (refine store_w ((Br.chg k3 (by simp)).chg k4 (by simp)) rfl 24 _ _ (feC (ev f d 0 N)) rfl rfl rfl feInfo rfl (feC_one _) ?_; intro w7 B7 k7)
    exact bodyPost_ret (results_cell_tmp Try.results13 _ _ rb 24 (feC (ev f d 0 N)) _ _ rfl rfl B7 Try.underlying24 rfl feInfo) rfl ⟨rfl, ((((Chg.refl w []).trans1 k2).trans1 k3).trans1 k4).new k7 hrb⟩
  · have ho := okI_f h
    rw [ho]
    clear h
    go_enter Try.func13, Try.ntmps13
    go_wp2_with (first
      | (with_reducible refine alloc_w rfl 24 rfl (.agg z32) zeroSc z32 rfl ?_; intro rb w2 hrb Br k2)
      | (go_at_call 28; refine (isID_s _ _).mono ?_; rintro e w' ⟨rfl, rfl⟩; rw [ho])
      | (refine gl_build (by rfl) 24 #[] rfl (feC 0) (by kernel_rfl) ?_)
      | (refine store_w Br rfl 24 _ _ (feC 0) rfl rfl rfl feInfo rfl (feC_one _) ?_; intro w7 B7 k7))
    exact bodyPost_ret (results_cell_tmp Try.results13 _ _ rb 24 (feC 0) _ _ rfl rfl B7 Try.underlying24 rfl feInfo) rfl ⟨rfl, ((Chg.refl w []).trans1 k2).new k7 hrb⟩
end Go.Proofs.Ytcagkcglmcafgaa

/- rimelaw07.canon. -/
set_option linter.unusedVariables false
set_option linter.unusedSimpArgs false
set_option linter.unnecessarySimpa false
namespace Go.Proofs.Ytcagkcglmcafgaa
open Go.RowKit N

/-- The first k, reduced. -/
def cnL (f : Nat → Nat) (k : Nat) : List Int := (List.range k).map fun j => ad ((f j : Nat) : Int) 0
theorem cnL_len (f : Nat → Nat) (k : Nat) : (cnL f k).length = k := by simp [cnL]
theorem cnL_s (f : Nat → Nat) (k : Nat) : cnL f (k + 1) = cnL f k ++ [ad ((f k : Nat) : Int) 0] := by simp [cnL, List.range_succ]
theorem cnL_get (f : Nat → Nat) (k j : Nat) (h : j < k) : (cnL f k).getD j 0 = ad ((f j : Nat) : Int) 0 := by simp [cnL, List.getD_eq_getElem?_getD, h]
theorem append_os {w : World} {ops : Array Oper} {rest : List Oper} {o : Oper} {a : Act} {Q : Exit → Act → World → Prop} (hgd : o.guard = none) (so xo : Operand)
    (ho : o.op = .call { callee := .builtin .append, args := #[so, xo], argTypes := #[25, 25] })
    (base : Nat) (v : Value) (gx : Nat) (l : List Int) (x : Int) (hs : a.eval so = v) (hxe : a.eval xo = .slice (some ⟨gx, 0, none⟩) 1 1) (hown : Os w base v l) (hx : Blk w gx (feC x) 24) (hl : l.length ≤ 2000000) (hbase : base ≤ w.heap.size)
    (h : ∀ v' w', Os w' base v' (l ++ [x]) → Chg w w' (ob v) → wpList Try.prog ops Q rest (a.put o.dst v') w') : wpList Try.prog ops Q (o :: rest) a w :=
  wpList_plain hgd fun _ hK => wp_append_os so xo ho base v gx l x hs hxe hown hx hl hbase fun v' w' q1 q2 => hK _ _ (h v' w' q1 q2)
set_option maxHeartbeats 8000000 in
set_option maxRecDepth 100000 in
theorem canon_s (v : Value) (N : Nat) (f : Nat → Nat) (hN : N ≤ 2000000) (w : World) (hL : Ls w v N f) :
    Calls Try.prog 12 #[v] w fun e w' => ∃ r, e = .returned r ∧ Os w' w.heap.size r (cnL f N) ∧ Chg w w' [] := by
  have HRF : Hid (∀ i, i < N → R256 ((f i : Nat) : Int)) := fun i hi => hL.r256 hi
  obtain ⟨p, cp, rfl, hp⟩ := hL.range
  have HP : Hid (∀ i, i < N → ∃ g o, p = some ⟨g, o, none⟩ ∧ g < w.heap.size ∧ w.rangeAt g (o + i * 32) (feL (f i : Nat))) := hp
  have HN : Hid (N ≤ 2000000) := hN
  obtain ⟨ie, hie, hiz, his, hib⟩ := scRowL
  have O0 : Os w w.heap.size (.slice none 0 0) (cnL f 0) := OwnR.nil _ _ _ _ _
  clear hp hL hN
  go_enter Try.func12, Try.ntmps12
  go_wp2_with fail
  go_loopw [3, 4] (fun t3 t wr => ∃ i : Nat, i ≤ N ∧ t = .int .i64 (i : Int) ∧ Os wr w.heap.size t3 (cnL f i) ∧ Chg w wr []) (fun _ t _ => (N - intOf t).toNat)
  case atStart => exact ⟨0, Nat.zero_le _, rfl, O0, Chg.refl w []⟩
  case round =>
    clear O0
    rename_i u3 u4
    obtain ⟨i, hi, rfl, O, C⟩ := hrel
    by_cases h : i < N
    · have hI : (i : Int) < (N : Int) := by omega
      have hI0 : (0 : Int) ≤ (i : Int) := by omega
      have e1 : IntKind.i64.wrap ((i : Int) + 1) = (i : Int) + 1 := by have := HN.out; rw [IntKind.wrap_i64]; omega
      have HMs : Hid _ := mN N i h
      have HI1 : Hid (i + 1 ≤ N) := h
      obtain ⟨g, o, rfl, hg, hF⟩ := HP.out i h
      have hF' := rangeAt_chg hF hg C (by simp)
      have HR : Hid (R256 ((f i : Nat) : Int)) := HRF.out i h
      have HOB : Hid (∀ i, i ∈ ob u3 → w.heap.size ≤ i) := fun i hi => (ob_own O i hi).1
      have HCz : Hid (w.heap.size ≤ wr.heap.size) := C.size
      obtain ⟨X, hX⟩ : ∃ X, ad ((f i : Nat) : Int) 0 = X := ⟨_, rfl⟩
      have HX : Hid (ad ((f i : Nat) : Int) 0 = X) := hX
      have HS : Hid (cnL f (i + 1) = cnL f i ++ [X]) := by show _ = _; rw [cnL_s, hX]
      clear hF hg h hi hX
      go_wp2_with (first
        | (with_reducible refine load_sc ?_ (.tmp 14) ?_ g (o + i * 32) ((f i : Nat) : Int) ?_ hF' ?_
           · rfl
           · rfl
           · rfl)
        | (refine gl_build (by rfl) 24 #[] rfl (feC 0) (by kernel_rfl) ?_))
      refine (Add_q _ 0 HR.out r256_c0 _).mono ?_
      rintro e w1 ⟨rfl, k1⟩
      rw [HX.out]
      go_wp2_with (first
        | (with_reducible refine bslice_w ?_ 25 24 (.tmp 17) ?_ (fe X) ?_ (feC X) ie (.agg z32) Try.underlying25 hie hiz 32 his (by omega) (by omega) (fill_sc _) ?_
           · rfl
           · rfl
           · rfl
           intro gx w2 hgx Bg k2)
        | (with_reducible refine append_os ?_ (.tmp 11) (.tmp 18) ?_ w.heap.size u3 gx (cnL f i) X ?_ ?_ ((O.chg k1).chg k2) Bg (by rw [cnL_len]; have := HN.out; have := HI1.out; omega) (by have := HCz.out; have := k1.size; have := k2.size; omega) ?_
           · rfl
           · rfl
           · rfl
           · rfl
           intro v7 w7 O7 k7))
      have C7 : Chg w w7 [] := ((C.trans1 k1).trans1 k2).trans k7 (fun i hi => Or.inr (HOB.out i hi))
      clear k1 k2 k7 O C Bg hgx hF'
      go_roundw
      case rel => exact ⟨i + 1, HI1.out, by go_num, by rw [HS.out]; exact O7, C7⟩
      case measure => exact HMs.out
    · obtain rfl : i = N := by omega
      have hI : ¬ (i : Int) < (i : Int) := by omega
      go_wp2_with fail
      go_ret
      exact ⟨_, rfl, O, C⟩
end Go.Proofs.Ytcagkcglmcafgaa

/- rimeref07.Place, Eval, At, IDs. -/
set_option linter.unusedVariables false
set_option linter.unusedSimpArgs false
set_option linter.unnecessarySimpa false
namespace Go.Proofs.Ytcagkcglmcafgaa
open Go.RowKit N

theorem by8_hi8 (n i : Nat) (hn : n < 18446744073709551616) (hi : 8 ≤ i) : by8 (n : Int) i = 0 := by
  rw [by8_nat]
  have h : 256 ^ 8 ≤ 256 ^ i := Nat.pow_le_pow_right (by decide) hi
  rw [Nat.div_eq_of_lt (by omega)]
  rfl
set_option maxHeartbeats 8000000 in
set_option maxRecDepth 100000 in
theorem FromInt_q (n : Nat) (hn : n < 18446744073709551616) (w : World) :
    Calls Try.prog 21 #[.int .u64 (n : Int)] w fun e w' => e = .returned (fe (n : Int)) ∧ Chg w w' [] := by
  have B1 : Blk ((w.alloc (.cells z32 24)).alloc (.cells z32 24)) w.heap.size z32 24 := (Blk.new w z32 24).alloc _
  have B2 : Blk ((w.alloc (.cells z32 24)).alloc (.cells z32 24)) (w.heap.size + 1) z32 24 := by have h := Blk.new (w.alloc (.cells z32 24)) z32 24; simpa using h
  have C0 : Chg w ((w.alloc (.cells z32 24)).alloc (.cells z32 24)) [] := ((Chg.refl w []).alloc _).alloc _
  rw [show z32 = b32 (bx (n : Int) 0) from b32_z32.symm] at B2
  go_enter Try.func21, Try.ntmps21
  go_wp2_with fail
  go_loopw [4] (fun t wr => ∃ i : Nat, i ≤ 8 ∧ t = .int .i64 (i : Int) ∧ Blk wr w.heap.size z32 24 ∧ Blk wr (w.heap.size + 1) (b32 (bx (n : Int) i)) 24 ∧ Chg w wr []) (fun t _ => (8 - intOf t).toNat)
  case atStart => exact ⟨0, by omega, rfl, B1, B2, C0⟩
  case round =>
    obtain ⟨i, hi, rfl, b1, b2, c0⟩ := hrel
    clear B1 B2 C0
    by_cases h8 : i < 8
    · have hI : (i : Int) < 8 := by omega
      have hI3 : (i : Int) < 32 := by omega
      have hw8 : IntKind.i64.wrap (8 * ((i : Nat) : Int)) = 8 * ((i : Nat) : Int) := by rw [IntKind.wrap_i64]; omega
      have hw : IntKind.u64.wrap (8 * ((i : Nat) : Int)) = 8 * ((i : Nat) : Int) := by rw [IntKind.wrap_u64]; omega
      have htn : (8 * ((i : Nat) : Int)).toNat = 8 * i := by omega
      have hmi : min (8 * i) 64 = 8 * i := by omega
      have cB := (b2.cell i).trans (b32_get _ i (by omega))
      have fB := b2.frozen i
      have hv : ((n : Int) / 2 ^ (8 * i)) % 256 = by8 (n : Int) i := by
        unfold by8
        rw [show (256 : Int) ^ i = 2 ^ (8 * i) from by rw [Int.pow_mul]; rfl]
      have b2n : Blk (wr.setCell ⟨w.heap.size + 1, i, none⟩ (.int .u8 (by8 (n : Int) i))) (w.heap.size + 1) (b32 (bx (n : Int) (i + 1))) 24 := (b2.setCell i _).to (b32_set _ _ _ _ (fun j _ => bx_step _ _ _))
      have b1n := b1.setOther (show ¬ w.heap.size = w.heap.size + 1 by omega) i (.int .u8 (by8 (n : Int) i))
      have cn := c0.setNew (show w.heap.size ≤ w.heap.size + 1 by omega) i (.int .u8 (by8 (n : Int) i))
      clear b1 b2 c0
      go_wp2_with fail
      exact ⟨⟨i + 1, by omega, by go_num, b1n, b2n, cn⟩, by simp [intOf]; omega⟩
    · have h9 : i = 8 := by omega
      subst h9
      rw [b32_fe (n : Int) (bx (n : Int) 8) (fun j hj => by unfold bx; split; rfl; exact (by8_hi8 n j hn (by omega)).symm)] at b2
      go_wp2_with (first | (refine wpList_load_row rfl 24 _ rfl (w.heap.size + 1) rfl 24 _ (0, 0) _ b2 Try.underlying24 rfl feInfo ?_) | (refine wpList_store_row rfl 24 _ _ rfl w.heap.size _ rfl rfl 24 _ b1 feInfo rfl (feC_one _) ?_))
      exact bodyPost_ret (results_cell_row Try.results21 _ _ w.heap.size 24 (feC (n : Int)) (0, 0) _ rfl (Blk.setRow b1 _) Try.underlying24 rfl feInfo) rfl ⟨rfl, c0.setRowNew (Nat.le_refl _) _⟩
set_option maxHeartbeats 4000000 in
set_option maxRecDepth 100000 in
theorem Place_r (d : Int) (hd : 0 ≤ d ∧ d < 9223372036854775808) (w : World) : Calls Try.prog 7 #[.int .i64 d] w fun e w' => e = .returned (fe d) ∧ Chg w w' [] := by
  have F0 : Blk (w.alloc (.cells z32 24)) w.heap.size z32 24 := Blk.new w z32 24
  have hc : Chg w (w.alloc (.cells z32 24)) [] := (Chg.refl w []).alloc _
  have e1 : IntKind.u64.wrap d = d := by rw [IntKind.wrap_u64]; omega
  obtain ⟨n, rfl⟩ := Int.eq_ofNat_of_zero_le hd.1
  have hn : n < 18446744073709551616 := by omega
  clear hd
  go_enter Try.func7, Try.ntmps7
  go_wp2_with fail
  refine (FromInt_q n hn _).mono ?_
  rintro e v1 ⟨rfl, k⟩
  replace F0 := F0.chg k (by simp)
  replace hc := hc.trans1 k
  go_wp2_with (refine wpList_store_row rfl 24 _ _ rfl w.heap.size _ rfl rfl 24 _ F0 feInfo rfl (feC_one _) ?_)
  exact bodyPost_ret (results_cell_row Try.results7 _ _ w.heap.size 24 (feC (n : Int)) (0, 0) _ rfl (Blk.setRow F0 _) Try.underlying24 rfl feInfo) rfl ⟨rfl, hc.setRowNew (by omega) _⟩
theorem ev_step (f : Nat → Nat) (x : Int) (q N : Nat) (h : q < N) : ma (ev f x (q + 1) (N - (q + 1))) x ((f q : Nat) : Int) = ev f x q (N - q) := by
  obtain ⟨m, hm⟩ : ∃ m, N - q = m + 1 := ⟨N - q - 1, by omega⟩
  rw [show N - (q + 1) = m by omega, hm]; rfl
theorem z32_ev (f : Nat → Nat) (x : Int) (k : Nat) : z32 = feC (ev f x k 0) := by
  have h : z32 = feC 0 := by kernel_rfl
  exact h
theorem idE_pre {f : Nat → Int} {k N : Nat} {e : Int} (hk : k ≤ N) (h : idE f k = e) (he : ¬ e = 0) (hN : ¬ N = 0) : idR f N = e := by
  unfold idR; rw [if_neg hN, idE_stays f (k := k) (by rw [h]; exact he) N hk, h]
theorem kn_false {f : Nat → Int} {i : Nat} {n : Nat} (hn : f i = (n : Int)) (h : ∀ j, j < i → ¬ f j = f i) : kn f i n = false := by
  unfold kn; rw [List.any_eq_false]; intro j hj; have := h j (List.mem_range.1 hj); rw [hn] at this; simpa using this
theorem kn_true {f : Nat → Int} {i k : Nat} {n : Nat} (hn : f i = (n : Int)) (hk : k < i) (h : f k = f i) : kn f i n = true := by
  unfold kn; rw [List.any_eq_true]; exact ⟨k, List.mem_range.2 hk, by rw [h, hn]; simp⟩
set_option maxHeartbeats 8000000 in
set_option maxRecDepth 100000 in
theorem IDs_r (v : Value) (N : Nat) (f : Nat → Int) (hN : N ≤ 4611686018427387904) (w : World) (hL : Il w v N f) :
    Calls Try.prog 8 #[v] w fun e w' => e = .returned (.int .i64 (idR f N)) ∧ Chg w w' [] := by
  obtain ⟨p, cp, rfl, hp⟩ := hL.form
  have HN : Hid (N ≤ 4611686018427387904) := hN
  have HP : Hid (∀ i, i < N → ∃ g o, p = some ⟨g, o, none⟩ ∧ g < w.heap.size ∧ w.cell? ⟨g, o + i, none⟩ = some (.int .i64 (f i))) := hp
  clear hp hL hN
  go_enter Try.func8, Try.ntmps8
  by_cases hZ : N = 0
  · subst hZ
    go_wp2_with fail
    go_ret
    exact ⟨rfl, Chg.refl w []⟩
  have hz : ¬ (N : Int) = 0 := by omega
  have HZ : Hid (¬ N = 0) := hZ
  clear hZ
  go_wp2_with fail
  go_loopw [3] (fun t wr => ∃ i : Nat, i ≤ N ∧ t = .int .i64 (i : Int) ∧ idE f i = 0 ∧ Chg w wr []) (fun t _ => (N - intOf t).toNat)
  case atStart => exact ⟨0, Nat.zero_le _, rfl, rfl, Chg.refl w []⟩
  case round =>
    obtain ⟨i, hi, rfl, hE, C⟩ := hrel
    by_cases h : i < N
    · have hI : (i : Int) < (N : Int) := by omega
      have hI0 : (0 : Int) ≤ (i : Int) := by omega
      have e1 : IntKind.i64.wrap ((i : Int) + 1) = (i : Int) + 1 := by have := HN.out; rw [IntKind.wrap_i64]; omega
      have HMs : Hid _ := mN N i h
      have HIN : Hid (i + 1 ≤ N) := h
      have HE : Hid (idE f i = 0) := hE
      obtain ⟨g, o, rfl, hg, hc⟩ := HP.out i h
      have HPg : Hid (∀ j, j < N → w.cell? ⟨g, o + j, none⟩ = some (.int .i64 (f j))) := fun j hj => by
        obtain ⟨g', o', e, _, q⟩ := HP.out j hj
        simp only [Option.some.injEq, Addr.mk.injEq, and_true] at e
        obtain ⟨rfl, rfl⟩ := e
        exact q
      have HGw : Hid (g < w.heap.size) := hg
      have hc' := cell_chg hc hg C (by simp)
      clear h hi hE hc hg HP
      by_cases h1 : 1 ≤ f i
      · by_cases h2 : f i ≤ 255
        · obtain ⟨n, hn⟩ := Int.eq_ofNat_of_zero_le (show 0 ≤ f i by omega)
          have HN1 : Hid (f i = (n : Int)) := hn
          have HB : Hid (1 ≤ f i ∧ f i ≤ 255) := ⟨h1, h2⟩
          clear hn
          go_wp2_with fail
          clear h1 h2 hc'
          go_loopw [4] (fun t wr => ∃ k : Nat, k ≤ i ∧ t = .int .i64 (k : Int) ∧ (∀ j, j < k → ¬ f j = f i) ∧ Chg w wr []) (fun t _ => (i - intOf t).toNat)
          case atStart => exact ⟨0, Nat.zero_le _, rfl, fun j hj => by omega, C⟩
          case round =>
            clear C
            obtain ⟨k, hk, rfl, hK, C⟩ := hrel
            by_cases h : k < i
            · have hI3 : (k : Int) < (i : Int) := by omega
              have hI4 : (0 : Int) ≤ (k : Int) := by omega
              have hI5 : (k : Int) < (N : Int) := by omega
              have e2 : IntKind.i64.wrap ((k : Int) + 1) = (k : Int) + 1 := by have := HN.out; have := HIN.out; rw [IntKind.wrap_i64]; omega
              have HMk : Hid _ := mN i k h
              have HKi : Hid (k + 1 ≤ i) := h
              have HK : Hid (wr.cell? ⟨g, o + k, none⟩ = some (.int .i64 (f k))) := cell_chg (HPg.out k (by have := HIN.out; omega)) HGw.out C (by simp)
              have HI : Hid (wr.cell? ⟨g, o + i, none⟩ = some (.int .i64 (f i))) := cell_chg (HPg.out i (by have := HIN.out; omega)) HGw.out C (by simp)
              have HGl : Hid (g < wr.heap.size) := Nat.lt_of_lt_of_le HGw.out C.size
              by_cases hq : f k = f i
              · have HE5 : Hid (idR f N = 5) := idE_pre HIN.out (idE_twice HE.out HB.out HN1.out (kn_true HN1.out HKi.out hq)) (by decide) HZ.out
                clear h hk hK
                go_wp2_with fail
                refine wp_region_held_drew (S := fun w' => Chg wr w' []) (by kernel_rfl) ((Chg.refl wr _).drew) (fun hHeld => ?_)
                refine take_val (v := ?_) 0 (some 31) rfl (by kernel_rfl) (by kernel_rfl) (by kernel_rfl) (fun _ _ _ h => h) rfl rfl (fun w hSw => ?_) hHeld ?_
                rotate_left
                · (go_simp; try with_reducible rfl)
                try simp only [Act.put, List.setIfInBounds_toArray, List.set_cons_zero, List.set_cons_succ]
                refine take_val (v := ?_) 1 (some 32) rfl (by kernel_rfl) (by kernel_rfl) (by kernel_rfl) (fun _ _ _ h => h) rfl rfl (fun w hSw => ?_) hHeld ?_
                rotate_left
                · (go_simp; try with_reducible rfl)
                try simp only [Act.put, List.setIfInBounds_toArray, List.set_cons_zero, List.set_cons_succ]
                refine take_val (v := ?_) 2 (some 33) rfl (by kernel_rfl) (by kernel_rfl) (by kernel_rfl) (fun _ _ _ h => h) rfl rfl (fun w hSw => ?_) hHeld ?_
                rotate_left
                · (go_simp; try with_reducible rfl)
                try simp only [Act.put, List.setIfInBounds_toArray, List.set_cons_zero, List.set_cons_succ]
                refine take_val (v := (.int .i64 (f k))) 3 (some 34) rfl (by kernel_rfl) (by kernel_rfl) (by kernel_rfl) (fun _ _ _ h => h) rfl rfl (fun w hSw => ?_) hHeld ?_
                · have cx := cell_chg HK.out HGl.out hSw (by simp)
                  (go_simp; try with_reducible rfl)
                try simp only [Act.put, List.setIfInBounds_toArray, List.set_cons_zero, List.set_cons_succ]
                refine take_val (v := ?_) 4 (some 35) rfl (by kernel_rfl) (by kernel_rfl) (by kernel_rfl) (fun _ _ _ h => h) rfl rfl (fun w hSw => ?_) hHeld ?_
                rotate_left
                · (go_simp; try with_reducible rfl)
                try simp only [Act.put, List.setIfInBounds_toArray, List.set_cons_zero, List.set_cons_succ]
                refine take_val (v := ?_) 5 (some 36) rfl (by kernel_rfl) (by kernel_rfl) (by kernel_rfl) (fun _ _ _ h => h) rfl rfl (fun w hSw => ?_) hHeld ?_
                rotate_left
                · (go_simp; try with_reducible rfl)
                try simp only [Act.put, List.setIfInBounds_toArray, List.set_cons_zero, List.set_cons_succ]
                refine take_val (v := ?_) 6 (some 37) rfl (by kernel_rfl) (by kernel_rfl) (by kernel_rfl) (fun _ _ _ h => h) rfl rfl (fun w hSw => ?_) hHeld ?_
                rotate_left
                · (go_simp; try with_reducible rfl)
                try simp only [Act.put, List.setIfInBounds_toArray, List.set_cons_zero, List.set_cons_succ]
                refine take_val (v := (.int .i64 (f i))) 7 (some 38) rfl (by kernel_rfl) (by kernel_rfl) (by kernel_rfl) (fun _ _ _ h => h) rfl rfl (fun w hSw => ?_) hHeld ?_
                · have cx := cell_chg HI.out HGl.out hSw (by simp)
                  (go_simp; try with_reducible rfl)
                try simp only [Act.put, List.setIfInBounds_toArray, List.set_cons_zero, List.set_cons_succ]
                refine take_val (v := ?_) 8 (some 39) rfl (by kernel_rfl) (by kernel_rfl) (by kernel_rfl) (fun _ _ _ h => h) rfl rfl (fun w hSw => ?_) hHeld ?_
                rotate_left
                · (go_simp; try with_reducible rfl)
                try simp only [Act.put, List.setIfInBounds_toArray, List.set_cons_zero, List.set_cons_succ]
                refine wpAnyH_done (by kernel_rfl) ?_ _
                replace C := C.trans1 hHeld
                clear hHeld
                go_wp2_with fail
                go_ret
                exact ⟨by rw [HE5.out]; rfl, C⟩
              · have HNk : Hid (∀ j, j < k + 1 → ¬ f j = f i) := fun j hj => by
                  by_cases h9 : j = k
                  · rw [h9]; exact hq
                  · exact hK j (by omega)
                clear h hk hK
                go_wp2_with fail
                refine wp_region_held_drew (S := fun w' => Chg wr w' []) (by kernel_rfl) ((Chg.refl wr _).drew) (fun hHeld => ?_)
                refine take_val (v := ?_) 0 (some 31) rfl (by kernel_rfl) (by kernel_rfl) (by kernel_rfl) (fun _ _ _ h => h) rfl rfl (fun w hSw => ?_) hHeld ?_
                rotate_left
                · (go_simp; try with_reducible rfl)
                try simp only [Act.put, List.setIfInBounds_toArray, List.set_cons_zero, List.set_cons_succ]
                refine take_val (v := ?_) 1 (some 32) rfl (by kernel_rfl) (by kernel_rfl) (by kernel_rfl) (fun _ _ _ h => h) rfl rfl (fun w hSw => ?_) hHeld ?_
                rotate_left
                · (go_simp; try with_reducible rfl)
                try simp only [Act.put, List.setIfInBounds_toArray, List.set_cons_zero, List.set_cons_succ]
                refine take_val (v := ?_) 2 (some 33) rfl (by kernel_rfl) (by kernel_rfl) (by kernel_rfl) (fun _ _ _ h => h) rfl rfl (fun w hSw => ?_) hHeld ?_
                rotate_left
                · (go_simp; try with_reducible rfl)
                try simp only [Act.put, List.setIfInBounds_toArray, List.set_cons_zero, List.set_cons_succ]
                refine take_val (v := (.int .i64 (f k))) 3 (some 34) rfl (by kernel_rfl) (by kernel_rfl) (by kernel_rfl) (fun _ _ _ h => h) rfl rfl (fun w hSw => ?_) hHeld ?_
                · have cx := cell_chg HK.out HGl.out hSw (by simp)
                  (go_simp; try with_reducible rfl)
                try simp only [Act.put, List.setIfInBounds_toArray, List.set_cons_zero, List.set_cons_succ]
                refine take_val (v := ?_) 4 (some 35) rfl (by kernel_rfl) (by kernel_rfl) (by kernel_rfl) (fun _ _ _ h => h) rfl rfl (fun w hSw => ?_) hHeld ?_
                rotate_left
                · (go_simp; try with_reducible rfl)
                try simp only [Act.put, List.setIfInBounds_toArray, List.set_cons_zero, List.set_cons_succ]
                refine take_val (v := ?_) 5 (some 36) rfl (by kernel_rfl) (by kernel_rfl) (by kernel_rfl) (fun _ _ _ h => h) rfl rfl (fun w hSw => ?_) hHeld ?_
                rotate_left
                · (go_simp; try with_reducible rfl)
                try simp only [Act.put, List.setIfInBounds_toArray, List.set_cons_zero, List.set_cons_succ]
                refine take_val (v := ?_) 6 (some 37) rfl (by kernel_rfl) (by kernel_rfl) (by kernel_rfl) (fun _ _ _ h => h) rfl rfl (fun w hSw => ?_) hHeld ?_
                rotate_left
                · (go_simp; try with_reducible rfl)
                try simp only [Act.put, List.setIfInBounds_toArray, List.set_cons_zero, List.set_cons_succ]
                refine take_val (v := (.int .i64 (f i))) 7 (some 38) rfl (by kernel_rfl) (by kernel_rfl) (by kernel_rfl) (fun _ _ _ h => h) rfl rfl (fun w hSw => ?_) hHeld ?_
                · have cx := cell_chg HI.out HGl.out hSw (by simp)
                  (go_simp; try with_reducible rfl)
                try simp only [Act.put, List.setIfInBounds_toArray, List.set_cons_zero, List.set_cons_succ]
                refine take_val (v := ?_) 8 (some 39) rfl (by kernel_rfl) (by kernel_rfl) (by kernel_rfl) (fun _ _ _ h => h) rfl rfl (fun w hSw => ?_) hHeld ?_
                rotate_left
                · (go_simp; try with_reducible rfl)
                try simp only [Act.put, List.setIfInBounds_toArray, List.set_cons_zero, List.set_cons_succ]
                refine wpAnyH_done (by kernel_rfl) ?_ _
                replace C := C.trans1 hHeld
                clear hHeld
                go_wp2_with fail
                go_roundw
                case rel => exact ⟨k + 1, HKi.out, by go_num, HNk.out, C⟩
                case measure => exact HMk.out
            · obtain rfl : k = i := by omega
              have hI3 : ¬ (k : Int) < (k : Int) := by omega
              have HE0 : Hid (idE f (k + 1) = 0) := idE_ok HE.out HB.out HN1.out (kn_false HN1.out hK)
              clear h hk hK
              go_wp2_with fail
              exact ⟨⟨k + 1, HIN.out, by omega, HE0.out⟩, by have := HMs.out; omega⟩
        · have HE4 : Hid (idR f N = 4) := idE_pre HIN.out (idE_bad HE.out (fun h => h2 h.2)) (by decide) HZ.out
          go_wp2_with fail
          go_ret
          exact ⟨by rw [HE4.out]; rfl, C⟩
      · have HE4 : Hid (idR f N = 4) := idE_pre HIN.out (idE_bad HE.out (fun h => h1 h.1)) (by decide) HZ.out
        go_wp2_with fail
        go_ret
        exact ⟨by rw [HE4.out]; rfl, C⟩
    · obtain rfl : i = N := by omega
      have hI : ¬ (i : Int) < (i : Int) := by omega
      go_wp2_with fail
      go_ret
      exact ⟨by unfold idR; rw [if_neg HZ.out, hE]; rfl, C⟩
end Go.Proofs.Ytcagkcglmcafgaa

/- Points of the call's own. -/
set_option linter.unusedVariables false
set_option linter.unusedSimpArgs false
set_option linter.unnecessarySimpa false
namespace Go.Proofs.Ytcagkcglmcafgaa
open Go.RowKit N

def oP (l : List (Int × Int)) : Nat → List Value := fun j => feL (l.getD j (0, 0)).1 ++ feL (l.getD j (0, 0)).2
theorem oP_ok (n : Nat) (l : List (Int × Int)) : Rok 64 n (oP l) := fun i _ => pF_ok 1 (fun _ => (l.getD i (0, 0)).1) (fun _ => (l.getD i (0, 0)).2) 0 (by omega)
/-- A list of points of the call's own. -/
def Opt (w : World) (base : Nat) (v : Value) (l : List (Int × Int)) : Prop := OwnR w base 29 64 v l.length (oP l)
theorem Opt.chg {w w' : World} {base : Nat} {v : Value} {l : List (Int × Int)} (h : Opt w base v l) (hc : Chg w w' []) : Opt w' base v l := OwnR.chg h hc (fun _ _ => by simp)
theorem fill_pt (x y : Int) : Instr.fill (fun i => some (i * 64, 64)) ((Array.range (1 * 64)).map ((Value.agg zPt).cells[· % (Value.agg zPt).cells.size]!)) [(0, .agg (ptC x y))] = some (ptC x y) := by kernel_rfl
theorem wp_append_op {w : World} {o : Oper} {a : Act} {K : Act → World → Prop} {Q : Exit → Act → World → Prop} (so xo : Operand)
    (ho : o.op = .call { callee := .builtin .append, args := #[so, xo], argTypes := #[30, 30] })
    (base : Nat) (v : Value) (gx : Nat) (l : List (Int × Int)) (x y : Int) (hs : a.eval so = v) (hxe : a.eval xo = .slice (some ⟨gx, 0, none⟩) 1 1) (hown : Opt w base v l) (hx : Blk w gx (ptC x y) 29) (hl : l.length ≤ 2000000) (hbase : base ≤ w.heap.size)
    (h : ∀ v' w', Opt w' base v' (l ++ [(x, y)]) → Chg w w' (ob v) → K (a.put o.dst v') w') : o.wp Try.prog a w K Q := by
  obtain ⟨ii, hi, hz, h1, h2⟩ := ptRow
  have hR : Rl w 64 (.slice (some ⟨gx, 0, none⟩) 1 1) 1 (oP [(x, y)]) := ⟨oP_ok 1 _, Or.inr ⟨gx, 0, 1, rfl, Nat.le_refl _, by omega, hx.lt, fun i hi => by
    obtain rfl : i = 0 := by omega
    intro j u hu
    rw [Nat.zero_mul, Nat.zero_add, hx.cell]
    unfold ptC
    rw [List.getElem?_toArray]
    exact hu⟩⟩
  refine wp_append_r so xo 30 ho 29 ii (.agg zPt) 64 64 Try.underlying30 hi hz h1 h2 rfl (by omega) base v _ l.length 1 (oP l) (oP [(x, y)]) hs hxe hown hR (by omega) (by omega) (by omega) hbase ?_
  intro g cap w' O k _ _
  refine h _ w' ?_ k
  unfold Opt
  rw [List.length_append]
  refine O.congr fun j hj => ?_
  unfold catR oP
  by_cases h : j < l.length
  · rw [if_pos h]; simp [List.getD_eq_getElem?_getD, List.getElem?_append_left h]
  · rw [if_neg h]; simp [List.getD_eq_getElem?_getD, List.getElem?_append_right (show l.length ≤ j by omega)]
/-- The call's own points, as a list. -/
theorem Opt.pl {w : World} {base : Nat} {v : Value} {l : List (Int × Int)} (h : Opt w base v l) (hy : ∀ j, j < l.length → R256 (l.getD j (0, 0)).1 ∧ R256 (l.getD j (0, 0)).2) : Pl w v l.length (fun j => (l.getD j (0, 0)).1) (fun j => (l.getD j (0, 0)).2) := ⟨OwnR.rl h, hy⟩
end Go.Proofs.Ytcagkcglmcafgaa
