/- Joined: Pol, Nwt, SafeM, WtM, RWtM, RThM. -/
import Derived.Test.YtoafcaieifjoiaaGreatMgD
import Derived.Test.YtoafcaieifjoiaaGreatMgY
import Derived.Test.YtoafcaieifjoiaaGreatMgSI
import Derived.Test.YtoafcaieifjoiaaGreatSh9
/- Polynomials over Fin n: values, uniqueness, Lagrange. Abstract; hooks to ev/cc/zv not yet. -/
set_option linter.unusedVariables false
set_option linter.unusedSimpArgs false
set_option linter.unnecessarySimpa false
namespace Go.Proofs.YtoafcaieifjoiaaGreat.Q
variable {n : Nat} [NeZero n]

/-- The value at x of the m coefficients from place k on. -/
def pe (c : Nat → Fin n) (x : Fin n) : Nat → Nat → Fin n
  | _, 0 => 0
  | k, m + 1 => pe c x (k + 1) m * x + c k
theorem pe_s (c : Nat → Fin n) (x : Fin n) (k m : Nat) : pe c x k (m + 1) = pe c x (k + 1) m * x + c k := rfl
theorem pe_0 (c : Nat → Fin n) (x : Fin n) (k : Nat) : pe c x k 0 = 0 := rfl
theorem pe_congr {c d : Nat → Fin n} {x : Fin n} : ∀ {m k : Nat}, (∀ i, k ≤ i → i < k + m → c i = d i) → pe c x k m = pe d x k m
  | 0, _, _ => rfl
  | m + 1, k, h => by rw [pe_s, pe_s, pe_congr (m := m) (k := k + 1) (fun i h1 h2 => h i (by omega) (by omega)), h k (by omega) (by omega)]
theorem pe_zero {c : Nat → Fin n} {x : Fin n} : ∀ {m k : Nat}, (∀ i, k ≤ i → i < k + m → c i = 0) → pe c x k m = 0
  | 0, _, _ => rfl
  | m + 1, k, h => by rw [pe_s, pe_zero (m := m) (k := k + 1) (fun i h1 h2 => h i (by omega) (by omega)), h k (by omega) (by omega)]; grind
theorem pe_add (c d : Nat → Fin n) (x : Fin n) : ∀ (m k : Nat), pe (fun i => c i + d i) x k m = pe c x k m + pe d x k m
  | 0, _ => by rw [pe_0, pe_0, pe_0]; grind
  | m + 1, k => by rw [pe_s, pe_s, pe_s, pe_add c d x m (k + 1)]; grind
theorem pe_mul (c : Nat → Fin n) (a x : Fin n) : ∀ (m k : Nat), pe (fun i => a * c i) x k m = a * pe c x k m
  | 0, _ => by rw [pe_0, pe_0]; grind
  | m + 1, k => by rw [pe_s, pe_s, pe_mul c a x m (k + 1)]; grind
theorem pe_shift (c : Nat → Fin n) (x : Fin n) : ∀ (m k : Nat), pe (fun i => c (i - 1)) x (k + 1) m = pe c x k m
  | 0, _ => rfl
  | m + 1, k => by rw [pe_s, pe_s, pe_shift c x m (k + 1)]; rfl
/-- More coefficients, which are 0. -/
theorem pe_more {c : Nat → Fin n} {x : Fin n} : ∀ {m k : Nat} (p : Nat), (∀ i, k + m ≤ i → c i = 0) → pe c x k (m + p) = pe c x k m
  | 0, k, p, h => by rw [Nat.zero_add, pe_0]; exact pe_zero (fun i h1 _ => h i (by omega))
  | m + 1, k, p, h => by rw [Nat.add_right_comm, pe_s, pe_s, pe_more (m := m) (k := k + 1) p (fun i hi => h i (by omega))]
/-- Division by (X - a). -/
theorem pe_div (c : Nat → Fin n) (x a : Fin n) : ∀ (m k : Nat), pe c x k (m + 1) - pe c a k (m + 1) = (x - a) * pe (fun i => pe c a (i + 1) (k + m - i)) x k m
  | 0, k => by rw [pe_s, pe_s, pe_0, pe_0, pe_0]; grind
  | m + 1, k => by
    have h := pe_div c x a m (k + 1)
    rw [pe_s c x k, pe_s c a k, pe_s _ x k]
    have e : (fun i => pe c a (i + 1) (k + 1 + m - i)) = fun i => pe c a (i + 1) (k + (m + 1) - i) := by funext i; rw [show k + 1 + m - i = k + (m + 1) - i by omega]
    rw [e] at h
    have e2 : pe c a (k + 1) (k + (m + 1) - k) = pe c a (k + 1) (m + 1) := by rw [show k + (m + 1) - k = m + 1 by omega]
    rw [e2]
    grind
/-- m distinct zeros of m coefficients: they are all 0. -/
theorem pe_roots (hz : ∀ a b : Fin n, a * b = 0 → a = 0 ∨ b = 0) : ∀ (m : Nat) (c x : Nat → Fin n), (∀ i j, i < m → j < m → x i = x j → i = j) → (∀ i, i < m → pe c (x i) 0 m = 0) → ∀ i, i < m → c i = 0
  | 0, _, _, _, _ => fun i hi => by omega
  | m + 1, c, x, hx, h0 => by
    have hd : ∀ i, i < m → pe (fun i => pe c (x m) (i + 1) (m - i)) (x i) 0 m = 0 := fun i hi => by
      have h := pe_div c (x i) (x m) m 0
      rw [h0 i (by omega), h0 m (by omega)] at h
      have h2 : (x i - x m) * pe (fun i => pe c (x m) (i + 1) (0 + m - i)) (x i) 0 m = 0 := by rw [← h]; grind
      simp only [Nat.zero_add] at h2
      rcases hz _ _ h2 with h3 | h3
      · exact absurd (hx i m (by omega) (by omega) (by grind)) (by omega)
      · exact h3
    have hq := pe_roots hz m _ x (fun i j hi hj => hx i j (by omega) (by omega)) hd
    have hq' : ∀ i, i ≤ m → pe c (x m) (i + 1) (m - i) = 0 := fun i hi => by
      by_cases h : i < m
      · exact hq i h
      · rw [show m - i = 0 by omega]; rfl
    intro i hi
    rcases i with _ | i
    · have h := h0 m (by omega)
      rw [pe_s] at h
      have h2 := hq' 0 (by omega)
      rw [Nat.sub_zero] at h2
      rw [h2] at h
      grind
    · have h := hq' i (by omega)
      rw [show m - i = (m - (i + 1)) + 1 by omega, pe_s, hq' (i + 1) (by omega)] at h
      grind
theorem pe_unique (hz : ∀ a b : Fin n, a * b = 0 → a = 0 ∨ b = 0) (m : Nat) (c d x : Nat → Fin n) (hx : ∀ i j, i < m → j < m → x i = x j → i = j) (h : ∀ i, i < m → pe c (x i) 0 m = pe d (x i) 0 m) : ∀ i, i < m → c i = d i := fun i hi => by
  have e : ∀ y, pe (fun i => c i + (-1) * d i) y 0 m = pe c y 0 m - pe d y 0 m := fun y => by rw [pe_add, pe_mul]; grind
  have := pe_roots hz m (fun i => c i + (-1) * d i) x hx (fun i hi => by rw [e, h i hi]; grind) i hi
  grind

/-! ### Functions that are polynomials -/
/-- h is a polynomial of m coefficients. -/
def Isp (h : Fin n → Fin n) (m : Nat) : Prop := ∃ c : Nat → Fin n, (∀ i, m ≤ i → c i = 0) ∧ ∀ x, h x = pe c x 0 m
theorem Isp.of (c : Nat → Fin n) (m : Nat) : Isp (fun x => pe c x 0 m) m := ⟨fun i => if i < m then c i else 0, fun i hi => by simp; omega, fun x => pe_congr fun i _ h => by simp at h; simp [h]⟩
theorem Isp.const (a : Fin n) : Isp (fun _ => a) 1 := ⟨fun i => if i = 0 then a else 0, fun i hi => by simp; omega, fun x => by rw [pe_s, pe_0]; simp; grind⟩
theorem Isp.more {h : Fin n → Fin n} {m : Nat} (q : Isp h m) (p : Nat) : Isp h (m + p) := by
  obtain ⟨c, h1, h2⟩ := q
  exact ⟨c, fun i hi => h1 i (by omega), fun x => by rw [h2, pe_more p (fun i hi => h1 i (by omega))]⟩
theorem Isp.add {h g : Fin n → Fin n} {m : Nat} (q : Isp h m) (r : Isp g m) : Isp (fun x => h x + g x) m := by
  obtain ⟨c, h1, h2⟩ := q
  obtain ⟨d, g1, g2⟩ := r
  exact ⟨fun i => c i + d i, fun i hi => by show c i + d i = 0; rw [h1 i hi, g1 i hi]; grind, fun x => by show h x + g x = _; rw [pe_add, h2, g2]⟩
theorem Isp.mul {h : Fin n → Fin n} {m : Nat} (q : Isp h m) (a : Fin n) : Isp (fun x => a * h x) m := by
  obtain ⟨c, h1, h2⟩ := q
  exact ⟨fun i => a * c i, fun i hi => by show a * c i = 0; rw [h1 i hi]; grind, fun x => by show a * h x = _; rw [pe_mul, h2]⟩
theorem pe_x (c : Nat → Fin n) (x : Fin n) (m : Nat) : pe (fun i => if i = 0 then 0 else c (i - 1)) x 0 (m + 1) = pe c x 0 m * x := by
  rw [pe_s, if_pos rfl, pe_congr (d := fun i => c (i - 1)) (fun i h1 _ => by rw [if_neg (by omega)]), pe_shift]
  grind
theorem Isp.lin {h : Fin n → Fin n} {m : Nat} (q : Isp h m) (a : Fin n) : Isp (fun x => h x * (x - a)) (m + 1) := by
  have q0 := (q.more 1).mul (-a)
  obtain ⟨c, h1, h2⟩ := q
  have r : Isp (fun x => pe c x 0 m * x) (m + 1) := ⟨fun i => if i = 0 then 0 else c (i - 1), fun i hi => by show (if i = 0 then 0 else c (i - 1)) = 0; rw [if_neg (by omega)]; exact h1 _ (by omega), fun x => (pe_x c x m).symm⟩
  obtain ⟨d, g1, g2⟩ := r.add q0
  exact ⟨d, g1, fun x => by rw [← g2]; simp only [h2]; grind⟩
theorem Isp.zero (hz : ∀ a b : Fin n, a * b = 0 → a = 0 ∨ b = 0) {h : Fin n → Fin n} {m : Nat} (q : Isp h m) (x : Nat → Fin n) (hx : ∀ i j, i < m → j < m → x i = x j → i = j) (h0 : ∀ i, i < m → h (x i) = 0) : ∀ y, h y = 0 := by
  obtain ⟨c, h1, h2⟩ := q
  have hc := pe_roots hz m c x hx (fun i hi => by rw [← h2]; exact h0 i hi)
  intro y
  rw [h2]
  exact pe_zero fun i _ hi => hc i (by omega)
theorem Isp.same (hz : ∀ a b : Fin n, a * b = 0 → a = 0 ∨ b = 0) {h g : Fin n → Fin n} {m : Nat} (q : Isp h m) (r : Isp g m) (x : Nat → Fin n) (hx : ∀ i j, i < m → j < m → x i = x j → i = j) (h0 : ∀ i, i < m → h (x i) = g (x i)) : ∀ y, h y = g y := fun y => by
  have := (q.add (r.mul (-1))).zero hz x hx (fun i hi => by rw [h0 i hi]; grind) y
  grind

/-! ### Sums and products -/
def sm (f : Nat → Fin n) : Nat → Fin n
  | 0 => 0
  | k + 1 => sm f k + f k
def pd (f : Nat → Fin n) : Nat → Fin n
  | 0 => 1
  | k + 1 => pd f k * f k
theorem sm_congr {f g : Nat → Fin n} : ∀ {k : Nat}, (∀ i, i < k → f i = g i) → sm f k = sm g k
  | 0, _ => rfl
  | k + 1, h => by unfold sm; rw [sm_congr (fun i hi => h i (by omega)), h k (by omega)]
theorem pd_congr {f g : Nat → Fin n} : ∀ {k : Nat}, (∀ i, i < k → f i = g i) → pd f k = pd g k
  | 0, _ => rfl
  | k + 1, h => by unfold pd; rw [pd_congr (fun i hi => h i (by omega)), h k (by omega)]
theorem pd_zero {f : Nat → Fin n} : ∀ {k i : Nat}, i < k → f i = 0 → pd f k = 0
  | k + 1, i, hi, h => by
    unfold pd
    by_cases h2 : i = k
    · rw [← h2, h]; grind
    · rw [pd_zero (show i < k by omega) h]; grind
theorem pd_ne (hz : ∀ a b : Fin n, a * b = 0 → a = 0 ∨ b = 0) (h1 : (1 : Fin n) ≠ 0) {f : Nat → Fin n} : ∀ {k : Nat}, (∀ i, i < k → f i ≠ 0) → pd f k ≠ 0
  | 0, _ => h1
  | k + 1, h => fun h2 => by
    unfold pd at h2
    rcases hz _ _ h2 with h3 | h3
    · exact pd_ne hz h1 (fun i hi => h i (by omega)) h3
    · exact h k (by omega) h3
theorem sm_one {f : Nat → Fin n} : ∀ {k i : Nat}, i < k → (∀ j, j < k → j ≠ i → f j = 0) → sm f k = f i
  | k + 1, i, hi, h => by
    unfold sm
    by_cases h2 : i = k
    · subst h2
      rw [sm_congr (g := fun _ => 0) (fun j hj => h j (by omega) (by omega))]
      have : ∀ m, sm (fun _ => (0 : Fin n)) m = 0 := fun m => by
        induction m with
        | zero => rfl
        | succ m ih => unfold sm; rw [ih]; grind
      rw [this]; grind
    · rw [sm_one (show i < k by omega) (fun j hj => h j (by omega)), h k (by omega) (by omega)]; grind
/-- The product over all places below k but i. -/
def pdx (f : Nat → Fin n) (i k : Nat) : Fin n := pd (fun j => if j = i then 1 else f j) k
theorem Isp.pd (x : Nat → Fin n) : ∀ k, Isp (fun y => Q.pd (fun j => y - x j) k) (k + 1)
  | 0 => Isp.const 1
  | k + 1 => (Isp.pd x k).lin (x k)
theorem Isp.pdx (x : Nat → Fin n) (i : Nat) : ∀ k, i < k → Isp (fun y => Q.pdx (fun j => y - x j) i k) k
  | k + 1, hi => by
    unfold Q.pdx
    by_cases h : i = k
    · have q := Isp.pd x k
      obtain ⟨c, h1, h2⟩ := q
      refine ⟨c, h1, fun y => ?_⟩
      rw [← h2]
      show Q.pd _ k * (if k = i then 1 else y - x k) = Q.pd (fun j => y - x j) k
      rw [if_pos h.symm, pd_congr (g := fun j => y - x j) (fun j hj => by rw [if_neg (by omega)])]
      grind
    · have q := (Isp.pdx x i k (by omega)).lin (x k)
      obtain ⟨c, h1, h2⟩ := q
      refine ⟨c, h1, fun y => ?_⟩
      rw [← h2]
      show Q.pd _ k * (if k = i then 1 else y - x k) = Q.pdx (fun j => y - x j) i k * (y - x k)
      rw [if_neg (by omega)]
      rfl
theorem Isp.sm {m : Nat} (f : Nat → Fin n → Fin n) : ∀ k, (∀ i, i < k → Isp (f i) m) → Isp (fun y => Q.sm (fun i => f i y) k) m
  | 0, _ => ⟨fun _ => 0, fun _ _ => rfl, fun x => (pe_zero fun _ _ _ => rfl).symm⟩
  | k + 1, h => (Isp.sm f k (fun i hi => h i (by omega))).add (h k (by omega))
/-- Lagrange: weights w with w i * (product of x i's distances) = 1. -/
theorem lagrange (hz : ∀ a b : Fin n, a * b = 0 → a = 0 ∨ b = 0) {m : Nat} (x w : Nat → Fin n) (hx : ∀ i j, i < m → j < m → x i = x j → i = j) (hw : ∀ i, i < m → w i * pdx (fun j => x i - x j) i m = 1) {g : Fin n → Fin n} (q : Isp g m) (y : Fin n) :
    sm (fun i => w i * pdx (fun j => y - x j) i m * g (x i)) m = g y := by
  have r : Isp (fun y => sm (fun i => w i * g (x i) * pdx (fun j => y - x j) i m) m) m := Isp.sm (fun i y => w i * g (x i) * pdx (fun j => y - x j) i m) m fun i hi => (Isp.pdx x i m hi).mul _
  have s := r.same hz q x hx (fun k hk => by
    rw [sm_one (i := k) hk (fun j hj hne => ?_)]
    · have := hw k hk; grind
    · have h0 : pdx (fun j => x k - x j) j m = 0 := pd_zero (i := k) hk (by rw [if_neg (fun h => hne h.symm)]; grind)
      rw [h0]; grind) y
  rw [← s]
  exact sm_congr fun i _ => by grind
end Go.Proofs.YtoafcaieifjoiaaGreat.Q

/- Newton's polynomial goes through its points. -/
namespace Go.Proofs.YtoafcaieifjoiaaGreat
open Go.RowKit N

/-- A number modulo n. -/
def zq (n : Nat) [NeZero n] (x : Int) : Fin n := Fin.ofNat n (x % (n : Int)).toNat
section
variable {n : Nat} [NeZero n]
theorem n_pos : (0 : Int) < (n : Int) := by have := NeZero.ne n; omega
theorem zq_val (x : Int) : (((zq n x).val : Nat) : Int) = x % (n : Int) := by
  have h := n_pos (n := n)
  have h1 := Int.emod_nonneg x (show (n : Int) ≠ 0 by omega)
  have h2 := Int.emod_lt_of_pos x h
  show (((x % (n : Int)).toNat % n : Nat) : Int) = _
  rw [Nat.mod_eq_of_lt (by omega)]
  omega
theorem zq_eq {x y : Int} : zq n x = zq n y ↔ x % (n : Int) = y % (n : Int) := by
  rw [← zq_val x, ← zq_val y]
  constructor
  · intro h; rw [h]
  · intro h; exact Fin.ext (by omega)
theorem zq_mod (x : Int) : zq n (x % (n : Int)) = zq n x := zq_eq.2 (Int.emod_emod_of_dvd _ (Int.dvd_refl _))
theorem zq_add (x y : Int) : zq n (x + y) = zq n x + zq n y := by
  apply Fin.ext
  have h : (((zq n x + zq n y).val : Nat) : Int) = (((zq n (x + y)).val : Nat) : Int) := by
    rw [Fin.val_add, Int.natCast_emod, Int.natCast_add, zq_val, zq_val, zq_val, ← Int.add_emod]
  omega
theorem zq_mul (x y : Int) : zq n (x * y) = zq n x * zq n y := by
  apply Fin.ext
  have h : (((zq n x * zq n y).val : Nat) : Int) = (((zq n (x * y)).val : Nat) : Int) := by
    rw [Fin.val_mul, Int.natCast_emod, Int.natCast_mul, zq_val, zq_val, zq_val, ← Int.mul_emod]
  omega
theorem zq_0 : zq n 0 = 0 := by
  apply Fin.ext
  have h := zq_val (n := n) 0
  rw [Int.zero_emod] at h
  have h2 : ((0 : Fin n).val) = 0 := by simp
  omega
theorem zq_1 : zq n 1 = 1 := by
  apply Fin.ext
  have h := zq_val (n := n) 1
  have h2 : ((1 : Fin n).val) = 1 % n := rfl
  have h3 : ((1 % n : Nat) : Int) = 1 % (n : Int) := Int.natCast_emod 1 n
  rw [h2]
  omega
theorem zq_sub (x y : Int) : zq n (x - y) = zq n x - zq n y := by
  have h := zq_add (n := n) (x - y) y
  rw [Int.sub_add_cancel] at h
  grind
theorem zq_neg (x : Int) : zq n (-x) = - zq n x := by
  have h := zq_sub (n := n) 0 x
  rw [Int.zero_sub, zq_0] at h
  grind
end
section
variable {n : Nat} [NeZero n] (hn : L = (n : Int))
include hn
theorem zq_L (x : Int) : zq n (x % L) = zq n x := by rw [hn]; exact zq_mod x
theorem zq_ma (a b c : Int) : zq n (ma a b c) = zq n a * zq n b + zq n c := by unfold ma; rw [zq_L hn, zq_add, zq_mul]
theorem zq_ml (a b : Int) : zq n (ml a b) = zq n a * zq n b := by unfold ml; rw [zq_L hn, zq_mul]
theorem zq_sb (a b : Int) : zq n (sb a b) = zq n a - zq n b := by unfold sb; rw [zq_L hn, zq_sub]
theorem zq_ng (a : Int) : zq n (ng a) = - zq n a := by unfold ng; rw [zq_L hn, zq_neg]
theorem zq_ev (f : Nat → Nat) (x : Int) : ∀ m k, zq n (ev f x k m) = Q.pe (fun j => zq n ((f j : Nat) : Int)) (zq n x) k m
  | 0, _ => zq_0
  | m + 1, k => by
    show zq n (ma (ev f x (k + 1) m) x ((f k : Nat) : Int)) = _
    rw [zq_ma hn, zq_ev f x m (k + 1), Q.pe_s]
theorem zq_wz (f : Nat → Nat) (x : Int) (N : Nat) (y : Fin n) : Q.pe (fun j => zq n (wz f x N j)) y 0 (N + 1) = Q.pe (fun j => zq n ((f j : Nat) : Int)) y 0 N * (y - zq n x) := by
  have e : Q.pe (fun j => zq n (wz f x N j)) y 0 (N + 1) = Q.pe (fun j => (- zq n x) * (if j < N then zq n ((f j : Nat) : Int) else 0) + (if j = 0 then 0 else zq n ((f (j - 1) : Nat) : Int))) y 0 (N + 1) := by
    refine Q.pe_congr fun j _ hj => ?_
    have hp : zq n (pv f j) = if j = 0 then 0 else zq n ((f (j - 1) : Nat) : Int) := by
      unfold pv
      by_cases h : j = 0
      · rw [if_pos h, if_pos h, zq_0]
      · rw [if_neg h, if_neg h]
    show zq n (wz f x N j) = _
    unfold wz
    by_cases h : j < N
    · rw [if_pos h, if_pos h, zq_ma hn, zq_ng hn, hp]
    · rw [if_neg h, if_neg h, hp]; grind
  rw [e, Q.pe_add, Q.pe_mul, Q.pe_x (fun j => zq n ((f j : Nat) : Int)) y N]
  have e2 : Q.pe (fun j => if j < N then zq n ((f j : Nat) : Int) else 0) y 0 (N + 1) = Q.pe (fun j => zq n ((f j : Nat) : Int)) y 0 N := by
    rw [Q.pe_more 1 (fun i hi => if_neg (by omega))]
    exact Q.pe_congr fun i _ hi => if_pos (by omega)
  rw [e2]
  grind
theorem zq_zz (X : Nat → Int) (y : Fin n) : ∀ i, Q.pe (fun j => zq n (zz X i j)) y 0 (i + 1) = Q.pd (fun j => y - zq n (X j)) i
  | 0 => by
    show Q.pe (fun _ => zq n 1) y 1 0 * y + zq n 1 = 1
    rw [Q.pe_0, zq_1]; grind
  | i + 1 => by
    show Q.pe (fun j => zq n (wz (nT (zz X i)) (X i) (i + 1) j)) y 0 (i + 1 + 1) = Q.pd (fun j => y - zq n (X j)) i * (y - zq n (X i))
    rw [zq_wz hn, ← zq_zz X y i]
    congr 1
    exact Q.pe_congr fun j _ hj => by rw [nT_c _ _ (zz_r X i j (by omega)).1]
theorem zq_zv (X : Nat → Int) (i : Nat) : zq n (zv X i) = Q.pd (fun j => zq n (X i) - zq n (X j)) i := by
  unfold zv
  rw [zq_ev hn, ← zq_zz hn X (zq n (X i)) i]
  exact Q.pe_congr fun j _ hj => by rw [nT_c _ _ (zz_r X i j (by omega)).1]
omit hn in
theorem cc_hi (X Y : Nat → Int) : ∀ i j, i ≤ j → cc X Y i j = 0
  | 0, _, _ => rfl
  | i + 1, j, h => by
    show (if j < i + 1 then _ else cc X Y i j) = 0
    rw [if_neg (by omega)]; exact cc_hi X Y i j (by omega)
theorem zq_cc (X Y : Nat → Int) (i : Nat) (y : Fin n) : Q.pe (fun j => zq n (cc X Y (i + 1) j)) y 0 (i + 1) = Q.pe (fun j => zq n (cc X Y i j)) y 0 i + zq n (fac X Y i) * Q.pd (fun j => y - zq n (X j)) i := by
  have e : Q.pe (fun j => zq n (cc X Y (i + 1) j)) y 0 (i + 1) = Q.pe (fun j => zq n (fac X Y i) * zq n (zz X i j) + zq n (cc X Y i j)) y 0 (i + 1) := by
    refine Q.pe_congr fun j _ hj => ?_
    show zq n (if j < i + 1 then ma (fac X Y i) (zz X i j) (cc X Y i j) else cc X Y i j) = _
    rw [if_pos (by omega), zq_ma hn]
  rw [e, Q.pe_add, Q.pe_mul, zq_zz hn, Q.pe_more 1 (fun j hj => by rw [cc_hi X Y i j (by omega), zq_0])]
  grind
theorem zq_fac (X Y : Nat → Int) (i : Nat) (h : ¬ zv X i = 0) : zq n (fac X Y i) * zq n (zv X i) = zq n (Y i) - Q.pe (fun j => zq n (cc X Y i j)) (zq n (X i)) 0 i := by
  have hz := zv_rl X i
  obtain ⟨m, hm⟩ := Int.eq_ofNat_of_zero_le hz.1
  have hd : ¬ LN ∣ m := fun hd => by
    have h1 : (m : Int) < L := by have := hz.2; rw [hm] at this; exact this
    have h2 : m < LN := by have := LN_eq; omega
    have := Nat.eq_zero_of_dvd_of_lt hd h2
    subst this
    exact h hm
  have hi := iv_mul m hd
  have h1 : zq n (iv (zv X i)) * zq n (zv X i) = 1 := by
    rw [← zq_mul, ← zq_L hn, hm]
    rw [hm] at *
    rw [hi, zq_1]
  unfold fac
  rw [zq_ml hn, zq_sb hn, zq_ev hn]
  have e : Q.pe (fun j => zq n ((nT (cc X Y i) j : Nat) : Int)) (zq n (X i)) 0 i = Q.pe (fun j => zq n (cc X Y i j)) (zq n (X i)) 0 i := Q.pe_congr fun j _ _ => by rw [nT_c _ _ (cc_r X Y i j).1]
  rw [e]
  grind
/-- Newton's polynomial goes through its points. -/
theorem newton (X Y : Nat → Int) : ∀ N, (∀ j, j < N → ¬ zv X j = 0) → ∀ k, k < N → Q.pe (fun j => zq n (cc X Y N j)) (zq n (X k)) 0 N = zq n (Y k)
  | 0, _, k, hk => by omega
  | N + 1, h, k, hk => by
    rw [zq_cc hn]
    by_cases e : k = N
    · subst e
      rw [← zq_zv hn, zq_fac hn X Y k (h k (by omega))]
      grind
    · rw [newton X Y N (fun j hj => h j (by omega)) k (by omega), Q.pd_zero (i := k) (by omega) (by grind)]
      grind
omit hn in
theorem zq_nat (a : Fin n) : zq n ((a.val : Nat) : Int) = a := by
  apply Fin.ext
  have h := zq_val (n := n) ((a.val : Nat) : Int)
  have h2 : ((a.val : Nat) : Int) % (n : Int) = ((a.val : Nat) : Int) := Int.emod_eq_of_lt (by omega) (by have := a.isLt; omega)
  omega
theorem zq_dom (a b : Fin n) (h : a * b = 0) : a = 0 ∨ b = 0 := by
  by_cases h0 : a = 0
  · exact Or.inl h0
  · right
    have hd : ¬ LN ∣ a.val := fun hd => by
      have h2 : a.val < LN := by have := a.isLt; have := LN_eq; omega
      have h3 := Nat.eq_zero_of_dvd_of_lt hd h2
      exact h0 (Fin.ext (by rw [h3]; simp))
    have hi := iv_mul a.val hd
    have h1 : zq n (iv ((a.val : Nat) : Int)) * a = 1 := by
      have e : zq n (iv ((a.val : Nat) : Int) * ((a.val : Nat) : Int)) = 1 := by rw [← zq_L hn, hi, zq_1]
      rw [zq_mul, zq_nat] at e
      exact e
    have : b = zq n (iv ((a.val : Nat) : Int)) * a * b := by rw [h1]; grind
    rw [this]
    grind
theorem zq_is0 {x : Int} (h : RL x) : zq n x = 0 ↔ x = 0 := by
  constructor
  · intro e
    rw [← zq_0 (n := n), zq_eq, Int.zero_emod, Int.emod_eq_of_lt h.1 (by have := h.2; rw [← hn]; exact this)] at e
    exact e
  · intro e; rw [e, zq_0]
theorem zv_apart {X : Nat → Int} {N : Nat} (h : ∀ j, j < N → ¬ zv X j = 0) : ∀ i j, i < N → j < N → zq n (X i) = zq n (X j) → i = j := by
  have q : ∀ i j, i < N → j < i → ¬ zq n (X i) = zq n (X j) := fun i j hi hj e => by
    refine h i hi ((zq_is0 hn (zv_rl X i)).1 ?_)
    rw [zq_zv hn]
    exact Q.pd_zero (i := j) hj (by rw [e]; grind)
  intro i j hi hj e
  by_cases h1 : j < i
  · exact absurd e (q i j hi h1)
  · by_cases h2 : i < j
    · exact absurd e.symm (q j i hj h2)
    · omega
theorem zv_ne {X : Nat → Int} {i : Nat} (h1 : (1 : Fin n) ≠ 0) (h : ∀ j, j < i → ¬ zq n (X i) = zq n (X j)) : ¬ zv X i = 0 := fun e => by
  have q := (zq_is0 hn (zv_rl X i)).2 e
  rw [zq_zv hn] at q
  exact Q.pd_ne (zq_dom hn) h1 (fun j hj => fun e => h j hj (by grind)) q
/-- And no other does. -/
theorem newton_one {X Y : Nat → Int} {N : Nat} (h : ∀ j, j < N → ¬ zv X j = 0) (f : Nat → Nat) (hf : ∀ k, k < N → zq n (ev f (X k) 0 N) = zq n (Y k)) : ∀ j, j < N → zq n ((f j : Nat) : Int) = zq n (cc X Y N j) :=
  Q.pe_unique (zq_dom hn) N (fun j => zq n ((f j : Nat) : Int)) (fun j => zq n (cc X Y N j)) (fun k => zq n (X k)) (zv_apart hn h) (fun k hk => by
    have e := hf k hk
    rw [zq_ev hn] at e
    rw [newton hn X Y N h k hk]
    exact e)
end
end Go.Proofs.YtoafcaieifjoiaaGreat

/- ShamirSafe: one polynomial, and no other. -/
namespace Go.Proofs.YtoafcaieifjoiaaGreat
open Go.RowKit N

theorem rl_z : RL 0 := ⟨by decide, by decide⟩
theorem cc_rl (X Y : Nat → Int) : ∀ i j, RL (cc X Y i j)
  | 0, _ => rl_z
  | i + 1, j => by
    unfold cc
    by_cases h : j < i + 1
    · simp only [if_pos h]; exact rl_mod _
    · simp only [if_neg h]; exact cc_rl X Y i j
theorem LN_nz : NeZero LN := ⟨by unfold LN; decide⟩
theorem L_LN : L = (LN : Int) := LN_eq.symm
theorem mod_id {x : Int} (h : RL x) : x % L = x := Int.emod_eq_of_lt h.1 (by have := h.2; unfold L; exact this)
theorem small_rl {x : Int} (h : 0 ≤ x ∧ x ≤ 255) : RL x := ⟨h.1, by omega⟩
/-- A polynomial with the same values is the same. -/
theorem ev_only {X Y : Nat → Int} {N : Nat} (h : ∀ j, j < N → ¬ zv X j = 0) (f : Nat → Nat) (hf : ∀ k, k < N → ev f (X k) 0 N = ad (Y k) 0) : ∀ j, j < N → ad ((f j : Nat) : Int) 0 = cc X Y N j := fun j hj => by
  haveI := LN_nz
  have e := newton_one (n := LN) (X := X) (Y := Y) L_LN h f (fun k hk => by
    rw [hf k hk]
    unfold ad
    rw [Int.add_zero]
    exact zq_L L_LN _) j hj
  have e2 := zq_eq.1 e
  rw [← L_LN, mod_id (cc_rl X Y N j)] at e2
  unfold ad
  rw [Int.add_zero]
  exact e2
end Go.Proofs.YtoafcaieifjoiaaGreat

/- Weights: what they come to. -/
namespace Go.Proofs.YtoafcaieifjoiaaGreat
open Go.RowKit N

/-! ### withoutEach -/
namespace Q
variable {n : Nat} [NeZero n]
end Q
section
variable {n : Nat} [NeZero n] (hn : L = (n : Int))
include hn
theorem zq_pL (f : Nat → Nat) : ∀ k, zq n (pL f k) = Q.pd (fun j => zq n ((f j : Nat) : Int)) k
  | 0 => by rw [pL_0]; exact zq_1
  | k + 1 => by
    have h := pL_s f k
    have e : zq n (pL f (k + 1)) = zq n (pL f k) * zq n ((f k : Nat) : Int) := by
      rw [← zq_L hn (pL f (k + 1)), ← h, zq_L hn, zq_mul, zq_L hn, zq_L hn]
    rw [e, zq_pL f k]
    rfl
theorem zq_dsL (x : Int) (d : Nat → Int) (but : Int) : ∀ k, Q.pd (fun j => zq n ((((dsL x d but k).getD j 0).toNat : Nat) : Int)) (dsL x d but k).length = Q.pd (fun j => if d j = but then 1 else zq n x - zq n (d j)) k
  | 0 => rfl
  | k + 1 => by
    have ih := zq_dsL x d but k
    by_cases h : d k = but
    · have e : dsL x d but (k + 1) = dsL x d but k := by show (if d k = but then _ else _) = _; rw [if_pos h]
      rw [e, ih]
      show _ = Q.pd (fun j => if d j = but then 1 else zq n x - zq n (d j)) k * (if d k = but then 1 else zq n x - zq n (d k))
      rw [if_pos h]
      grind
    · have e : dsL x d but (k + 1) = dsL x d but k ++ [sb x (d k)] := by show (if d k = but then _ else _) = _; rw [if_neg h]
      rw [e, List.length_append]
      show Q.pd _ (dsL x d but k).length * zq n ((((dsL x d but k ++ [sb x (d k)]).getD (dsL x d but k).length 0).toNat : Nat) : Int) = Q.pd (fun j => if d j = but then 1 else zq n x - zq n (d j)) k * (if d k = but then 1 else zq n x - zq n (d k))
      rw [if_neg h]
      have e1 : (dsL x d but k ++ [sb x (d k)]).getD (dsL x d but k).length 0 = sb x (d k) := by simp [List.getD_eq_getElem?_getD]
      have hnn : 0 ≤ sb x (d k) := (r256_mod _).1
      rw [e1, Int.toNat_of_nonneg hnn, zq_sb hn, ← ih]
      congr 1
      exact Q.pd_congr fun j hj => by simp [List.getD_eq_getElem?_getD, List.getElem?_append_left hj]
/-- The product of an identifier's distances. -/
theorem zq_gpv {d : Nat → Int} {N i : Nat} (hi : i < N) (hd : ∀ i j, i < N → j < N → d i = d j → i = j) : zq n (gpv d N i) = Q.pdx (fun j => zq n (d i) - zq n (d j)) i N := by
  unfold gpv
  rw [zq_L hn, zq_pL hn, zq_dsL hn]
  unfold Q.pdx
  refine Q.pd_congr fun j hj => ?_
  by_cases e : j = i
  · subst e; rw [if_pos rfl, if_pos rfl]
  · rw [if_neg e, if_neg (fun e2 => e (hd j i hj hi e2))]
end
theorem id_rl {d : Nat → Int} {N : Nat} (h : ∀ i, i < N → 1 ≤ d i ∧ d i ≤ 255) {i : Nat} (hi : i < N) : RL (d i) := small_rl (by have := h i hi; omega)
/-- No product of distances is 0. -/
theorem gpv_ne {d : Nat → Int} {N : Nat} (h : idE d N = 0) {i : Nat} (hi : i < N) : ¬ LN ∣ (gpv d N i).toNat := fun hd => by
  haveI := LN_nz
  obtain ⟨q1, q2⟩ := idE_zero h
  have hr := gpv_rl d N i
  have h0 : gpv d N i = 0 := by
    have h2 : (gpv d N i).toNat < LN := by have := hr.2; have e := LN_eq; unfold L at e; have := hr.1; omega
    have := Nat.eq_zero_of_dvd_of_lt hd h2
    have := hr.1
    omega
  have e := (zq_is0 (n := LN) L_LN hr).2 h0
  rw [zq_gpv L_LN hi q2] at e
  refine Q.pd_ne (zq_dom L_LN) ?_ (fun j hj => ?_) e
  · intro e
    have h1 := (zq_is0 (n := LN) L_LN (x := 1) ⟨by decide, by decide⟩).1 (by rw [zq_1]; exact e)
    omega
  · by_cases e2 : j = i
    · rw [if_pos e2]
      intro e
      have h1 := (zq_is0 (n := LN) L_LN (x := 1) ⟨by decide, by decide⟩).1 (by rw [zq_1]; exact e)
      omega
    · rw [if_neg e2]
      intro e
      have e3 : zq LN (d i) = zq LN (d j) := by grind
      have e4 := zq_eq.1 e3
      rw [← L_LN, mod_id (id_rl q1 hi), mod_id (id_rl q1 hj)] at e4
      exact e2 (q2 j i hj hi e4.symm)
theorem igv_one {d : Nat → Int} {N : Nat} (h : idE d N = 0) {i : Nat} (hi : i < N) : igv d N i * gpv d N i % L = 1 := by
  have hr := gpv_rl d N i
  have hm := iv_mul (gpv d N i).toNat (gpv_ne h hi)
  rw [Int.toNat_of_nonneg hr.1] at hm
  exact hm
theorem zq_igv {d : Nat → Int} {N : Nat} (h : idE d N = 0) {i : Nat} (hi : i < N) : haveI := LN_nz; zq LN (igv d N i) * Q.pdx (fun j => zq LN (d i) - zq LN (d j)) i N = 1 := by
  haveI := LN_nz
  obtain ⟨q1, q2⟩ := idE_zero h
  rw [← zq_gpv L_LN hi q2, ← zq_mul, ← zq_L L_LN, igv_one h hi]
  exact zq_1
end Go.Proofs.YtoafcaieifjoiaaGreat

/- rimeref07's weights: what they come to. -/
namespace Go.Proofs.YtoafcaieifjoiaaGreat
open Go.RowKit N

/-- The product of x's distances from the first k places but one. -/
def tpv (X : Nat → Int) (a : Nat) (x : Int) : Nat → Int
  | 0 => 1
  | k + 1 => if k = a then tpv X a x k else ml (tpv X a x k) (sb x (X k))
theorem rl_1 : RL 1 := ⟨by decide, by decide⟩
theorem tpv_rl (X : Nat → Int) (a : Nat) (x : Int) : ∀ k, RL (tpv X a x k)
  | 0 => rl_1
  | k + 1 => by
    unfold tpv
    split
    · exact tpv_rl X a x k
    · exact rl_mod _
theorem tpv_at (X : Nat → Int) (a : Nat) (x : Int) : tpv X a x (a + 1) = tpv X a x a := by show (if a = a then _ else _) = _; rw [if_pos rfl]
theorem tpv_other (X : Nat → Int) (a : Nat) (x : Int) (k : Nat) (h : ¬ k = a) : tpv X a x (k + 1) = ml (tpv X a x k) (sb x (X k)) := by show (if k = a then _ else _) = _; rw [if_neg h]
theorem zq_tpv (X : Nat → Int) (a : Nat) (x : Int) : haveI := LN_nz; ∀ k, zq LN (tpv X a x k) = Q.pdx (fun j => zq LN x - zq LN (X j)) a k
  | 0 => by haveI := LN_nz; exact zq_1
  | k + 1 => by
    haveI := LN_nz
    show _ = Q.pdx (fun j => zq LN x - zq LN (X j)) a k * (if k = a then 1 else zq LN x - zq LN (X k))
    by_cases h : k = a
    · subst h
      rw [tpv_at, if_pos rfl, zq_tpv X k x k]
      grind
    · rw [tpv_other X a x k h, if_neg h, zq_ml L_LN, zq_sb L_LN, zq_tpv X a x k]
end Go.Proofs.YtoafcaieifjoiaaGreat

/- rimeref07.coefs: Lagrange's coefficients are Newton's. -/
namespace Go.Proofs.YtoafcaieifjoiaaGreat
open Go.RowKit N

namespace Q
theorem z1 {n : Nat} [NeZero n] (y : Fin n) : 0 * y + 1 = 1 := by grind
end Q
/-! ### A polynomial times (x - a) -/
def qv (c : Nat → Int) (j : Nat) : Int := if j = 0 then 0 else ad 0 (c (j - 1))
/-- times, the first i places done. -/
def tmi (c : Nat → Int) (a : Int) (i j : Nat) : Int := if j < i then sb (qv c j) (ml a (c j)) else if j = i then qv c i else 0
def tms (c : Nat → Int) (a : Int) (N j : Nat) : Int := if j < N then sb (qv c j) (ml a (c j)) else qv c j
theorem qv_s (c : Nat → Int) (j : Nat) : qv c (j + 1) = ad 0 (c j) := by unfold qv; rw [if_neg (by omega), Nat.add_sub_cancel]
theorem qv_rl (c : Nat → Int) : ∀ j, RL (qv c j)
  | 0 => rl_z
  | j + 1 => by rw [qv_s]; exact rl_mod _
theorem tms_rl (c : Nat → Int) (a : Int) (N j : Nat) : RL (tms c a N j) := by
  unfold tms
  split
  · exact rl_mod _
  · exact qv_rl c j
theorem tmi_at (c : Nat → Int) (a : Int) (i : Nat) : tmi c a i i = qv c i := by unfold tmi; rw [if_neg (by omega), if_pos rfl]
theorem tmi_next (c : Nat → Int) (a : Int) (i : Nat) : tmi c a i (i + 1) = 0 := by unfold tmi; rw [if_neg (by omega), if_neg (by omega)]
theorem tmi_0 (c : Nat → Int) (a : Int) (j : Nat) : tmi c a 0 j = 0 := by
  unfold tmi
  rw [if_neg (by omega)]
  by_cases h : j = 0
  · rw [if_pos h]; rfl
  · rw [if_neg h]
theorem tmi_mid (c : Nat → Int) (a : Int) (i : Nat) : upS (tmi c a i) (i + 1) (ad 0 (c i)) i = qv c i := by unfold upS; rw [if_neg (by omega), tmi_at]
theorem tmi_step (c : Nat → Int) (a : Int) (i j : Nat) : upS (upS (tmi c a i) (i + 1) (ad 0 (c i))) i (sb (qv c i) (ml a (c i))) j = tmi c a (i + 1) j := by
  unfold upS
  by_cases h : j = i
  · subst h
    rw [if_pos rfl]
    unfold tmi
    rw [if_pos (by omega)]
  · rw [if_neg h]
    by_cases h2 : j = i + 1
    · subst h2
      rw [if_pos rfl, tmi_at, qv_s]
    · rw [if_neg h2]
      unfold tmi
      by_cases h3 : j < i
      · rw [if_pos h3, if_pos (by omega)]
      · rw [if_neg h3, if_neg h, if_neg (by omega), if_neg h2]
theorem tmi_N (c : Nat → Int) (a : Int) (N j : Nat) (h : j < N + 1) : tmi c a N j = tms c a N j := by
  unfold tmi tms
  by_cases h1 : j < N
  · rw [if_pos h1, if_pos h1]
  · rw [if_neg h1, if_neg h1, if_pos (by omega), show j = N by omega]
theorem zq_tms (c : Nat → Int) (a : Int) (N : Nat) (y : Fin LN) : haveI := LN_nz; Q.pe (fun j => zq LN (tms c a N j)) y 0 (N + 1) = Q.pe (fun j => zq LN (c j)) y 0 N * (y - zq LN a) := by
  haveI := LN_nz
  have e : Q.pe (fun j => zq LN (tms c a N j)) y 0 (N + 1) = Q.pe (fun j => (- zq LN a) * (if j < N then zq LN (c j) else 0) + (if j = 0 then 0 else zq LN (c (j - 1)))) y 0 (N + 1) := by
    refine Q.pe_congr fun j _ hj => ?_
    have hq : zq LN (qv c j) = if j = 0 then 0 else zq LN (c (j - 1)) := by
      unfold qv
      by_cases h : j = 0
      · rw [if_pos h, if_pos h, zq_0]
      · rw [if_neg h, if_neg h]
        unfold ad
        rw [zq_L L_LN, Int.zero_add]
    show zq LN (tms c a N j) = _
    unfold tms
    by_cases h : j < N
    · rw [if_pos h, if_pos h, zq_sb L_LN, zq_ml L_LN, hq]; grind
    · rw [if_neg h, if_neg h, hq]; grind
  rw [e, Q.pe_add, Q.pe_mul, Q.pe_x (fun j => zq LN (c j)) y N]
  have e2 : Q.pe (fun j => if j < N then zq LN (c j) else 0) y 0 (N + 1) = Q.pe (fun j => zq LN (c j)) y 0 N := by
    rw [Q.pe_more 1 (fun i hi => if_neg (by omega))]
    exact Q.pe_congr fun i _ hi => if_pos (by omega)
  rw [e2]
  grind
/-! ### The product over all places but one -/
def lpn (i k : Nat) : Nat := if i < k then k else k + 1
theorem lpn_at (i : Nat) : lpn i (i + 1) = lpn i i := by unfold lpn; rw [if_pos (by omega), if_neg (by omega)]
theorem lpn_other (i k : Nat) (h : ¬ k = i) : lpn i (k + 1) = lpn i k + 1 := by
  unfold lpn
  by_cases h2 : i < k
  · rw [if_pos h2, if_pos (by omega)]
  · rw [if_neg h2, if_neg (by omega)]
theorem lpn_N {i N : Nat} (h : i < N) : lpn i N = N := if_pos h
theorem lpn_le (i k : Nat) : lpn i k ≤ k + 1 := by unfold lpn; split <;> omega
def lpc (X : Nat → Int) (i : Nat) : Nat → Nat → Int
  | 0 => fun _ => 1
  | k + 1 => if k = i then lpc X i k else tms (lpc X i k) (X k) (lpn i k)
theorem lpc_at (X : Nat → Int) (i : Nat) : lpc X i (i + 1) = lpc X i i := by show (if i = i then _ else _) = _; rw [if_pos rfl]
theorem lpc_other (X : Nat → Int) (i k : Nat) (h : ¬ k = i) : lpc X i (k + 1) = tms (lpc X i k) (X k) (lpn i k) := by show (if k = i then _ else _) = _; rw [if_neg h]
theorem lpc_rl (X : Nat → Int) (i : Nat) : ∀ k j, RL (lpc X i k j)
  | 0, _ => rl_1
  | k + 1, j => by
    by_cases h : k = i
    · subst h; rw [lpc_at]; exact lpc_rl X k k j
    · rw [lpc_other X i k h]; exact tms_rl _ _ _ _
theorem zq_lpc (X : Nat → Int) (i : Nat) (y : Fin LN) : haveI := LN_nz; ∀ k, Q.pe (fun j => zq LN (lpc X i k j)) y 0 (lpn i k) = Q.pdx (fun j => y - zq LN (X j)) i k
  | 0 => by
    haveI := LN_nz
    show Q.pe (fun _ => zq LN 1) y 0 (lpn i 0) = 1
    rw [show lpn i 0 = 1 from if_neg (by omega), Q.pe_s, Q.pe_0, zq_1]
    exact Q.z1 y
  | k + 1 => by
    haveI := LN_nz
    show _ = Q.pdx (fun j => y - zq LN (X j)) i k * (if k = i then 1 else y - zq LN (X k))
    by_cases h : k = i
    · subst h
      rw [lpc_at, lpn_at, if_pos rfl, zq_lpc X k y k]
      grind
    · rw [lpc_other X i k h, lpn_other i k h, if_neg h, zq_tms, zq_lpc X i y k]
/-! ### The sum -/
def fcv (X Y : Nat → Int) (N i : Nat) : Int := ml (Y i) (iv (tpv X i (X i) N))
def oc (X Y : Nat → Int) (N : Nat) : Nat → Nat → Int
  | 0 => fun _ => 0
  | i + 1 => fun j => ma (fcv X Y N i) (lpc X i N j) (oc X Y N i j)
theorem oc_rl (X Y : Nat → Int) (N : Nat) : ∀ i j, RL (oc X Y N i j)
  | 0, _ => rl_z
  | _ + 1, _ => rl_mod _
theorem zq_oc (X Y : Nat → Int) (N : Nat) (y : Fin LN) : haveI := LN_nz; ∀ i, i ≤ N → Q.pe (fun j => zq LN (oc X Y N i j)) y 0 N = Q.sm (fun q => zq LN (fcv X Y N q) * Q.pdx (fun j => y - zq LN (X j)) q N) i
  | 0, _ => by
    haveI := LN_nz
    exact Q.pe_zero fun _ _ _ => zq_0
  | i + 1, h => by
    haveI := LN_nz
    show _ = Q.sm (fun q => zq LN (fcv X Y N q) * Q.pdx (fun j => y - zq LN (X j)) q N) i + zq LN (fcv X Y N i) * Q.pdx (fun j => y - zq LN (X j)) i N
    have e : Q.pe (fun j => zq LN (oc X Y N (i + 1) j)) y 0 N = Q.pe (fun j => zq LN (fcv X Y N i) * zq LN (lpc X i N j) + zq LN (oc X Y N i j)) y 0 N := Q.pe_congr fun j _ _ => zq_ma L_LN _ _ _
    have e3 := zq_lpc X i y N
    rw [lpn_N (by omega)] at e3
    rw [e, Q.pe_add, Q.pe_mul, zq_oc X Y N y i (by omega), e3]
    grind
theorem one_nz : haveI := LN_nz; (1 : Fin LN) ≠ 0 := by
  haveI := LN_nz
  intro e
  have h1 := (zq_is0 (n := LN) L_LN (x := 1) rl_1).1 (by rw [zq_1]; exact e)
  omega
theorem tp_ne {X : Nat → Int} {N i : Nat} (hi : i < N) (hX : haveI := LN_nz; ∀ i j, i < N → j < N → zq LN (X i) = zq LN (X j) → i = j) : ¬ LN ∣ (tpv X i (X i) N).toNat := fun hd => by
  haveI := LN_nz
  have hr := tpv_rl X i (X i) N
  have h0 : tpv X i (X i) N = 0 := by
    have h2 : (tpv X i (X i) N).toNat < LN := by have := hr.2; have e := LN_eq; unfold L at e; have := hr.1; omega
    have := Nat.eq_zero_of_dvd_of_lt hd h2
    have := hr.1
    omega
  have e := (zq_is0 (n := LN) L_LN hr).2 h0
  rw [zq_tpv] at e
  refine Q.pd_ne (zq_dom L_LN) one_nz (fun j hj => ?_) e
  by_cases e2 : j = i
  · rw [if_pos e2]; exact one_nz
  · rw [if_neg e2]
    intro e
    exact e2 (hX j i hj hi (by grind))
theorem th_one {X Y : Nat → Int} {N : Nat} (hX : haveI := LN_nz; ∀ i j, i < N → j < N → zq LN (X i) = zq LN (X j) → i = j) {k : Nat} (hk : k < N) : ev (nT (oc X Y N N)) (X k) 0 N = ad (Y k) 0 := by
  haveI := LN_nz
  have hr := tpv_rl X k (X k) N
  have hm := iv_mul (tpv X k (X k) N).toNat (tp_ne hk hX)
  rw [Int.toNat_of_nonneg hr.1] at hm
  have e : zq LN (ev (nT (oc X Y N N)) (X k) 0 N) = zq LN (Y k) := by
    have e0 : Q.pe (fun j => zq LN ((nT (oc X Y N N) j : Nat) : Int)) (zq LN (X k)) 0 N = Q.pe (fun j => zq LN (oc X Y N N j)) (zq LN (X k)) 0 N := Q.pe_congr fun j _ _ => by rw [nT_c _ _ (oc_rl X Y N N j).1]
    rw [zq_ev L_LN, e0, zq_oc X Y N _ N (Nat.le_refl _), Q.sm_one (i := k) hk (fun q hq hne => ?_)]
    · have h1 : zq LN (iv (tpv X k (X k) N)) * Q.pdx (fun j => zq LN (X k) - zq LN (X j)) k N = 1 := by
        rw [← zq_tpv X k (X k) N, ← zq_mul, ← zq_L L_LN, hm, zq_1]
      unfold fcv
      rw [zq_ml L_LN]
      grind
    · have h0 : Q.pdx (fun j => zq LN (X k) - zq LN (X j)) q N = 0 := Q.pd_zero (i := k) hk (by rw [if_neg (fun h => hne h.symm)]; grind)
      rw [h0]
      grind
  have e2 := zq_eq.1 e
  rw [← L_LN, mod_id (ev_rl _ _ _ _)] at e2
  unfold ad
  rw [e2, Int.add_zero]
theorem zq_ad0 (x : Int) : haveI := LN_nz; zq LN (ad x 0) = zq LN x := by
  haveI := LN_nz
  unfold ad
  rw [zq_L L_LN, Int.add_zero]
theorem ev_x (f : Nat → Nat) {x y : Int} (h : haveI := LN_nz; zq LN x = zq LN y) (N : Nat) : ev f x 0 N = ev f y 0 N := by
  haveI := LN_nz
  have e : zq LN (ev f x 0 N) = zq LN (ev f y 0 N) := by rw [zq_ev L_LN, zq_ev L_LN, h]
  have e2 := zq_eq.1 e
  rw [← L_LN, mod_id (ev_rl _ _ _ _), mod_id (ev_rl _ _ _ _)] at e2
  exact e2
def rd0 (X : Nat → Int) : Nat → Int := fun j => ad (X j) 0
theorem zv_apart' {X : Nat → Int} {N : Nat} (h : ∀ k i, k < i → i < N → ¬ rd0 X k = rd0 X i) : ∀ j, j < N → ¬ zv X j = 0 := fun j hj => by
  haveI := LN_nz
  refine zv_ne (n := LN) L_LN one_nz (fun i hi e => ?_)
  refine h i j hi hj ?_
  have e2 := zq_eq.1 e
  rw [← L_LN] at e2
  unfold rd0 ad
  rw [Int.add_zero, Int.add_zero, e2]
theorem rd0_inj {X : Nat → Int} {N : Nat} (h : ∀ k i, k < i → i < N → ¬ rd0 X k = rd0 X i) : haveI := LN_nz; ∀ i j, i < N → j < N → zq LN (rd0 X i) = zq LN (rd0 X j) → i = j := by
  haveI := LN_nz
  intro i j hi hj e
  have e2 := zq_eq.1 e
  have e3 : rd0 X i = rd0 X j := by
    rw [← L_LN] at e2
    have a := mod_id (rl_mod (X i + 0))
    have b := mod_id (rl_mod (X j + 0))
    exact a.symm.trans (e2.trans b)
  by_cases h1 : i < j
  · exact absurd e3 (h i j h1 hj)
  · by_cases h2 : j < i
    · exact absurd e3.symm (h j i h2 hi)
    · omega
/-- Lagrange's coefficients are Newton's. -/
theorem oc_cc {X Y : Nat → Int} {N : Nat} (h : ∀ k i, k < i → i < N → ¬ rd0 X k = rd0 X i) : ∀ j, j < N → oc (rd0 X) (rd0 Y) N N j = cc X Y N j := fun j hj => by
  haveI := LN_nz
  have e := ev_only (X := X) (Y := Y) (zv_apart' h) (nT (oc (rd0 X) (rd0 Y) N N)) (fun k hk => by
    have q := th_one (X := rd0 X) (Y := rd0 Y) (rd0_inj h) hk
    rw [ev_x _ (zq_ad0 (X k)).symm N]
    show ev _ (rd0 X k) 0 N = _
    rw [q]
    unfold rd0 ad
    rw [Int.add_zero, Int.add_zero, Int.emod_emod_of_dvd _ (Int.dvd_refl L)]) j hj
  rw [nT_c _ _ (oc_rl _ _ N N j).1] at e
  rw [← e]
  unfold ad
  rw [Int.add_zero]
  exact (mod_id (oc_rl _ _ N N j)).symm
end Go.Proofs.YtoafcaieifjoiaaGreat
