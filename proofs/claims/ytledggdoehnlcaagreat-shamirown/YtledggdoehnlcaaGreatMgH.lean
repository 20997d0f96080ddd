/- Joined: Pol, Nwt, SafeM, WtM, BkM7. -/
import Derived.Test.YtledggdoehnlcaaGreatMgD
import Derived.Test.YtledggdoehnlcaaGreatSh5
import Derived.Test.YtledggdoehnlcaaGreatSInvM
import Derived.Test.YtledggdoehnlcaaGreatSh9
import Derived.Test.YtledggdoehnlcaaGreatSh7
/- Polynomials over Fin n: values, uniqueness, Lagrange. Abstract; hooks to ev/cc/zv not yet. -/
set_option linter.unusedVariables false
set_option linter.unusedSimpArgs false
set_option linter.unnecessarySimpa false
namespace Go.Proofs.YtledggdoehnlcaaGreat.Q
variable {n : Nat} [NeZero n]

/-- The value at x of the m coefficients from place k on. -/
def pe (c : Nat → Fin n) (x : Fin n) : Nat → Nat → Fin n
  | _, 0 => 0
  | k, m + 1 => pe c x (k + 1) m * x + c k
theorem pe_s (c : Nat → Fin n) (x : Fin n) (k m : Nat) : pe c x k (m + 1) = pe c x (k + 1) m * x + c k := rfl
theorem pe_0 (c : Nat → Fin n) (x : Fin n) (k : Nat) : pe c x k 0 = 0 := rfl
theorem pe_congr {c d : Nat → Fin n} {x : Fin n} : ∀ {m k : Nat}, (∀ i, k ≤ i → i < k + m → c i = d i) → pe c x k m = pe d x k m
  | 0, _, _ => rfl
  | m + 1, k, h => by rw [pe_s, pe_s, pe_congr (m := m) (k := k + 1) (fun i h1 h2 => h i (by omega) (by omega)), h k (by omega) (by omega)]
theorem pe_zero {c : Nat → Fin n} {x : Fin n} : ∀ {m k : Nat}, (∀ i, k ≤ i → i < k + m → c i = 0) → pe c x k m = 0
  | 0, _, _ => rfl
  | m + 1, k, h => by rw [pe_s, pe_zero (m := m) (k := k + 1) (fun i h1 h2 => h i (by omega) (by omega)), h k (by omega) (by omega)]; grind
theorem pe_add (c d : Nat → Fin n) (x : Fin n) : ∀ (m k : Nat), pe (fun i => c i + d i) x k m = pe c x k m + pe d x k m
  | 0, _ => by rw [pe_0, pe_0, pe_0]; grind
  | m + 1, k => by rw [pe_s, pe_s, pe_s, pe_add c d x m (k + 1)]; grind
theorem pe_mul (c : Nat → Fin n) (a x : Fin n) : ∀ (m k : Nat), pe (fun i => a * c i) x k m = a * pe c x k m
  | 0, _ => by rw [pe_0, pe_0]; grind
  | m + 1, k => by rw [pe_s, pe_s, pe_mul c a x m (k + 1)]; grind
theorem pe_shift (c : Nat → Fin n) (x : Fin n) : ∀ (m k : Nat), pe (fun i => c (i - 1)) x (k + 1) m = pe c x k m
  | 0, _ => rfl
  | m + 1, k => by rw [pe_s, pe_s, pe_shift c x m (k + 1)]; rfl
/-- More coefficients, which are 0. -/
theorem pe_more {c : Nat → Fin n} {x : Fin n} : ∀ {m k : Nat} (p : Nat), (∀ i, k + m ≤ i → c i = 0) → pe c x k (m + p) = pe c x k m
  | 0, k, p, h => by rw [Nat.zero_add, pe_0]; exact pe_zero (fun i h1 _ => h i (by omega))
  | m + 1, k, p, h => by rw [Nat.add_right_comm, pe_s, pe_s, pe_more (m := m) (k := k + 1) p (fun i hi => h i (by omega))]
/-- Division by (X - a). -/
theorem pe_div (c : Nat → Fin n) (x a : Fin n) : ∀ (m k : Nat), pe c x k (m + 1) - pe c a k (m + 1) = (x - a) * pe (fun i => pe c a (i + 1) (k + m - i)) x k m
  | 0, k => by rw [pe_s, pe_s, pe_0, pe_0, pe_0]; grind
  | m + 1, k => by
    have h := pe_div c x a m (k + 1)
    rw [pe_s c x k, pe_s c a k, pe_s _ x k]
    have e : (fun i => pe c a (i + 1) (k + 1 + m - i)) = fun i => pe c a (i + 1) (k + (m + 1) - i) := by funext i; rw [show k + 1 + m - i = k + (m + 1) - i by omega]
    rw [e] at h
    have e2 : pe c a (k + 1) (k + (m + 1) - k) = pe c a (k + 1) (m + 1) := by rw [show k + (m + 1) - k = m + 1 by omega]
    rw [e2]
    grind
/-- m distinct zeros of m coefficients: they are all 0. -/
theorem pe_roots (hz : ∀ a b : Fin n, a * b = 0 → a = 0 ∨ b = 0) : ∀ (m : Nat) (c x : Nat → Fin n), (∀ i j, i < m → j < m → x i = x j → i = j) → (∀ i, i < m → pe c (x i) 0 m = 0) → ∀ i, i < m → c i = 0
  | 0, _, _, _, _ => fun i hi => by omega
  | m + 1, c, x, hx, h0 => by
    have hd : ∀ i, i < m → pe (fun i => pe c (x m) (i + 1) (m - i)) (x i) 0 m = 0 := fun i hi => by
      have h := pe_div c (x i) (x m) m 0
      rw [h0 i (by omega), h0 m (by omega)] at h
      have h2 : (x i - x m) * pe (fun i => pe c (x m) (i + 1) (0 + m - i)) (x i) 0 m = 0 := by rw [← h]; grind
      simp only [Nat.zero_add] at h2
      rcases hz _ _ h2 with h3 | h3
      · exact absurd (hx i m (by omega) (by omega) (by grind)) (by omega)
      · exact h3
    have hq := pe_roots hz m _ x (fun i j hi hj => hx i j (by omega) (by omega)) hd
    have hq' : ∀ i, i ≤ m → pe c (x m) (i + 1) (m - i) = 0 := fun i hi => by
      by_cases h : i < m
      · exact hq i h
      · rw [show m - i = 0 by omega]; rfl
    intro i hi
    rcases i with _ | i
    · have h := h0 m (by omega)
      rw [pe_s] at h
      have h2 := hq' 0 (by omega)
      rw [Nat.sub_zero] at h2
      rw [h2] at h
      grind
    · have h := hq' i (by omega)
      rw [show m - i = (m - (i + 1)) + 1 by omega, pe_s, hq' (i + 1) (by omega)] at h
      grind
theorem pe_unique (hz : ∀ a b : Fin n, a * b = 0 → a = 0 ∨ b = 0) (m : Nat) (c d x : Nat → Fin n) (hx : ∀ i j, i < m → j < m → x i = x j → i = j) (h : ∀ i, i < m → pe c (x i) 0 m = pe d (x i) 0 m) : ∀ i, i < m → c i = d i := fun i hi => by
  have e : ∀ y, pe (fun i => c i + (-1) * d i) y 0 m = pe c y 0 m - pe d y 0 m := fun y => by rw [pe_add, pe_mul]; grind
  have := pe_roots hz m (fun i => c i + (-1) * d i) x hx (fun i hi => by rw [e, h i hi]; grind) i hi
  grind

/-! ### Functions that are polynomials -/
/-- h is a polynomial of m coefficients. -/
def Isp (h : Fin n → Fin n) (m : Nat) : Prop := ∃ c : Nat → Fin n, (∀ i, m ≤ i → c i = 0) ∧ ∀ x, h x = pe c x 0 m
theorem Isp.of (c : Nat → Fin n) (m : Nat) : Isp (fun x => pe c x 0 m) m := ⟨fun i => if i < m then c i else 0, fun i hi => by simp; omega, fun x => pe_congr fun i _ h => by simp at h; simp [h]⟩
theorem Isp.const (a : Fin n) : Isp (fun _ => a) 1 := ⟨fun i => if i = 0 then a else 0, fun i hi => by simp; omega, fun x => by rw [pe_s, pe_0]; simp; grind⟩
theorem Isp.more {h : Fin n → Fin n} {m : Nat} (q : Isp h m) (p : Nat) : Isp h (m + p) := by
  obtain ⟨c, h1, h2⟩ := q
  exact ⟨c, fun i hi => h1 i (by omega), fun x => by rw [h2, pe_more p (fun i hi => h1 i (by omega))]⟩
theorem Isp.add {h g : Fin n → Fin n} {m : Nat} (q : Isp h m) (r : Isp g m) : Isp (fun x => h x + g x) m := by
  obtain ⟨c, h1, h2⟩ := q
  obtain ⟨d, g1, g2⟩ := r
  exact ⟨fun i => c i + d i, fun i hi => by show c i + d i = 0; rw [h1 i hi, g1 i hi]; grind, fun x => by show h x + g x = _; rw [pe_add, h2, g2]⟩
theorem Isp.mul {h : Fin n → Fin n} {m : Nat} (q : Isp h m) (a : Fin n) : Isp (fun x => a * h x) m := by
  obtain ⟨c, h1, h2⟩ := q
  exact ⟨fun i => a * c i, fun i hi => by show a * c i = 0; rw [h1 i hi]; grind, fun x => by show a * h x = _; rw [pe_mul, h2]⟩
theorem pe_x (c : Nat → Fin n) (x : Fin n) (m : Nat) : pe (fun i => if i = 0 then 0 else c (i - 1)) x 0 (m + 1) = pe c x 0 m * x := by
  rw [pe_s, if_pos rfl, pe_congr (d := fun i => c (i - 1)) (fun i h1 _ => by rw [if_neg (by omega)]), pe_shift]
  grind
theorem Isp.lin {h : Fin n → Fin n} {m : Nat} (q : Isp h m) (a : Fin n) : Isp (fun x => h x * (x - a)) (m + 1) := by
  have q0 := (q.more 1).mul (-a)
  obtain ⟨c, h1, h2⟩ := q
  have r : Isp (fun x => pe c x 0 m * x) (m + 1) := ⟨fun i => if i = 0 then 0 else c (i - 1), fun i hi => by show (if i = 0 then 0 else c (i - 1)) = 0; rw [if_neg (by omega)]; exact h1 _ (by omega), fun x => (pe_x c x m).symm⟩
  obtain ⟨d, g1, g2⟩ := r.add q0
  exact ⟨d, g1, fun x => by rw [← g2]; simp only [h2]; grind⟩
theorem Isp.zero (hz : ∀ a b : Fin n, a * b = 0 → a = 0 ∨ b = 0) {h : Fin n → Fin n} {m : Nat} (q : Isp h m) (x : Nat → Fin n) (hx : ∀ i j, i < m → j < m → x i = x j → i = j) (h0 : ∀ i, i < m → h (x i) = 0) : ∀ y, h y = 0 := by
  obtain ⟨c, h1, h2⟩ := q
  have hc := pe_roots hz m c x hx (fun i hi => by rw [← h2]; exact h0 i hi)
  intro y
  rw [h2]
  exact pe_zero fun i _ hi => hc i (by omega)
theorem Isp.same (hz : ∀ a b : Fin n, a * b = 0 → a = 0 ∨ b = 0) {h g : Fin n → Fin n} {m : Nat} (q : Isp h m) (r : Isp g m) (x : Nat → Fin n) (hx : ∀ i j, i < m → j < m → x i = x j → i = j) (h0 : ∀ i, i < m → h (x i) = g (x i)) : ∀ y, h y = g y := fun y => by
  have := (q.add (r.mul (-1))).zero hz x hx (fun i hi => by rw [h0 i hi]; grind) y
  grind

/-! ### Sums and products -/
def sm (f : Nat → Fin n) : Nat → Fin n
  | 0 => 0
  | k + 1 => sm f k + f k
def pd (f : Nat → Fin n) : Nat → Fin n
  | 0 => 1
  | k + 1 => pd f k * f k
theorem sm_congr {f g : Nat → Fin n} : ∀ {k : Nat}, (∀ i, i < k → f i = g i) → sm f k = sm g k
  | 0, _ => rfl
  | k + 1, h => by unfold sm; rw [sm_congr (fun i hi => h i (by omega)), h k (by omega)]
theorem pd_congr {f g : Nat → Fin n} : ∀ {k : Nat}, (∀ i, i < k → f i = g i) → pd f k = pd g k
  | 0, _ => rfl
  | k + 1, h => by unfold pd; rw [pd_congr (fun i hi => h i (by omega)), h k (by omega)]
theorem pd_zero {f : Nat → Fin n} : ∀ {k i : Nat}, i < k → f i = 0 → pd f k = 0
  | k + 1, i, hi, h => by
    unfold pd
    by_cases h2 : i = k
    · rw [← h2, h]; grind
    · rw [pd_zero (show i < k by omega) h]; grind
theorem pd_ne (hz : ∀ a b : Fin n, a * b = 0 → a = 0 ∨ b = 0) (h1 : (1 : Fin n) ≠ 0) {f : Nat → Fin n} : ∀ {k : Nat}, (∀ i, i < k → f i ≠ 0) → pd f k ≠ 0
  | 0, _ => h1
  | k + 1, h => fun h2 => by
    unfold pd at h2
    rcases hz _ _ h2 with h3 | h3
    · exact pd_ne hz h1 (fun i hi => h i (by omega)) h3
    · exact h k (by omega) h3
theorem sm_one {f : Nat → Fin n} : ∀ {k i : Nat}, i < k → (∀ j, j < k → j ≠ i → f j = 0) → sm f k = f i
  | k + 1, i, hi, h => by
    unfold sm
    by_cases h2 : i = k
    · subst h2
      rw [sm_congr (g := fun _ => 0) (fun j hj => h j (by omega) (by omega))]
      have : ∀ m, sm (fun _ => (0 : Fin n)) m = 0 := fun m => by
        induction m with
        | zero => rfl
        | succ m ih => unfold sm; rw [ih]; grind
      rw [this]; grind
    · rw [sm_one (show i < k by omega) (fun j hj => h j (by omega)), h k (by omega) (by omega)]; grind
/-- The product over all places below k but i. -/
def pdx (f : Nat → Fin n) (i k : Nat) : Fin n := pd (fun j => if j = i then 1 else f j) k
theorem Isp.pd (x : Nat → Fin n) : ∀ k, Isp (fun y => Q.pd (fun j => y - x j) k) (k + 1)
  | 0 => Isp.const 1
  | k + 1 => (Isp.pd x k).lin (x k)
theorem Isp.pdx (x : Nat → Fin n) (i : Nat) : ∀ k, i < k → Isp (fun y => Q.pdx (fun j => y - x j) i k) k
  | k + 1, hi => by
    unfold Q.pdx
    by_cases h : i = k
    · have q := Isp.pd x k
      obtain ⟨c, h1, h2⟩ := q
      refine ⟨c, h1, fun y => ?_⟩
      rw [← h2]
      show Q.pd _ k * (if k = i then 1 else y - x k) = Q.pd (fun j => y - x j) k
      rw [if_pos h.symm, pd_congr (g := fun j => y - x j) (fun j hj => by rw [if_neg (by omega)])]
      grind
    · have q := (Isp.pdx x i k (by omega)).lin (x k)
      obtain ⟨c, h1, h2⟩ := q
      refine ⟨c, h1, fun y => ?_⟩
      rw [← h2]
      show Q.pd _ k * (if k = i then 1 else y - x k) = Q.pdx (fun j => y - x j) i k * (y - x k)
      rw [if_neg (by omega)]
      rfl
theorem Isp.sm {m : Nat} (f : Nat → Fin n → Fin n) : ∀ k, (∀ i, i < k → Isp (f i) m) → Isp (fun y => Q.sm (fun i => f i y) k) m
  | 0, _ => ⟨fun _ => 0, fun _ _ => rfl, fun x => (pe_zero fun _ _ _ => rfl).symm⟩
  | k + 1, h => (Isp.sm f k (fun i hi => h i (by omega))).add (h k (by omega))
/-- Lagrange: weights w with w i * (product of x i's distances) = 1. -/
theorem lagrange (hz : ∀ a b : Fin n, a * b = 0 → a = 0 ∨ b = 0) {m : Nat} (x w : Nat → Fin n) (hx : ∀ i j, i < m → j < m → x i = x j → i = j) (hw : ∀ i, i < m → w i * pdx (fun j => x i - x j) i m = 1) {g : Fin n → Fin n} (q : Isp g m) (y : Fin n) :
    sm (fun i => w i * pdx (fun j => y - x j) i m * g (x i)) m = g y := by
  have r : Isp (fun y => sm (fun i => w i * g (x i) * pdx (fun j => y - x j) i m) m) m := Isp.sm (fun i y => w i * g (x i) * pdx (fun j => y - x j) i m) m fun i hi => (Isp.pdx x i m hi).mul _
  have s := r.same hz q x hx (fun k hk => by
    rw [sm_one (i := k) hk (fun j hj hne => ?_)]
    · have := hw k hk; grind
    · have h0 : pdx (fun j => x k - x j) j m = 0 := pd_zero (i := k) hk (by rw [if_neg (fun h => hne h.symm)]; grind)
      rw [h0]; grind) y
  rw [← s]
  exact sm_congr fun i _ => by grind
end Go.Proofs.YtledggdoehnlcaaGreat.Q

/- Newton's polynomial goes through its points. -/
set_option linter.unusedVariables false
set_option linter.unusedSimpArgs false
set_option linter.unnecessarySimpa false
namespace Go.Proofs.YtledggdoehnlcaaGreat
open Go.RowKit N

/-- A number modulo n. -/
def zq (n : Nat) [NeZero n] (x : Int) : Fin n := Fin.ofNat n (x % (n : Int)).toNat
section
variable {n : Nat} [NeZero n]
theorem n_pos : (0 : Int) < (n : Int) := by have := NeZero.ne n; omega
theorem zq_val (x : Int) : (((zq n x).val : Nat) : Int) = x % (n : Int) := by
  have h := n_pos (n := n)
  have h1 := Int.emod_nonneg x (show (n : Int) ≠ 0 by omega)
  have h2 := Int.emod_lt_of_pos x h
  show (((x % (n : Int)).toNat % n : Nat) : Int) = _
  rw [Nat.mod_eq_of_lt (by omega)]
  omega
theorem zq_eq {x y : Int} : zq n x = zq n y ↔ x % (n : Int) = y % (n : Int) := by
  rw [← zq_val x, ← zq_val y]
  constructor
  · intro h; rw [h]
  · intro h; exact Fin.ext (by omega)
theorem zq_mod (x : Int) : zq n (x % (n : Int)) = zq n x := zq_eq.2 (Int.emod_emod_of_dvd _ (Int.dvd_refl _))
theorem zq_add (x y : Int) : zq n (x + y) = zq n x + zq n y := by
  apply Fin.ext
  have h : (((zq n x + zq n y).val : Nat) : Int) = (((zq n (x + y)).val : Nat) : Int) := by
    rw [Fin.val_add, Int.natCast_emod, Int.natCast_add, zq_val, zq_val, zq_val, ← Int.add_emod]
  omega
theorem zq_mul (x y : Int) : zq n (x * y) = zq n x * zq n y := by
  apply Fin.ext
  have h : (((zq n x * zq n y).val : Nat) : Int) = (((zq n (x * y)).val : Nat) : Int) := by
    rw [Fin.val_mul, Int.natCast_emod, Int.natCast_mul, zq_val, zq_val, zq_val, ← Int.mul_emod]
  omega
theorem zq_0 : zq n 0 = 0 := by
  apply Fin.ext
  have h := zq_val (n := n) 0
  rw [Int.zero_emod] at h
  have h2 : ((0 : Fin n).val) = 0 := by simp
  omega
theorem zq_1 : zq n 1 = 1 := by
  apply Fin.ext
  have h := zq_val (n := n) 1
  have h2 : ((1 : Fin n).val) = 1 % n := rfl
  have h3 : ((1 % n : Nat) : Int) = 1 % (n : Int) := Int.natCast_emod 1 n
  rw [h2]
  omega
theorem zq_sub (x y : Int) : zq n (x - y) = zq n x - zq n y := by
  have h := zq_add (n := n) (x - y) y
  rw [Int.sub_add_cancel] at h
  grind
theorem zq_neg (x : Int) : zq n (-x) = - zq n x := by
  have h := zq_sub (n := n) 0 x
  rw [Int.zero_sub, zq_0] at h
  grind
end
section
variable {n : Nat} [NeZero n] (hn : L = (n : Int))
include hn
theorem zq_L (x : Int) : zq n (x % L) = zq n x := by rw [hn]; exact zq_mod x
theorem zq_ma (a b c : Int) : zq n (ma a b c) = zq n a * zq n b + zq n c := by unfold ma; rw [zq_L hn, zq_add, zq_mul]
theorem zq_ml (a b : Int) : zq n (ml a b) = zq n a * zq n b := by unfold ml; rw [zq_L hn, zq_mul]
theorem zq_sb (a b : Int) : zq n (sb a b) = zq n a - zq n b := by unfold sb; rw [zq_L hn, zq_sub]
theorem zq_ng (a : Int) : zq n (ng a) = - zq n a := by unfold ng; rw [zq_L hn, zq_neg]
theorem zq_ev (f : Nat → Nat) (x : Int) : ∀ m k, zq n (ev f x k m) = Q.pe (fun j => zq n ((f j : Nat) : Int)) (zq n x) k m
  | 0, _ => zq_0
  | m + 1, k => by
    show zq n (ma (ev f x (k + 1) m) x ((f k : Nat) : Int)) = _
    rw [zq_ma hn, zq_ev f x m (k + 1), Q.pe_s]
theorem zq_wz (f : Nat → Nat) (x : Int) (N : Nat) (y : Fin n) : Q.pe (fun j => zq n (wz f x N j)) y 0 (N + 1) = Q.pe (fun j => zq n ((f j : Nat) : Int)) y 0 N * (y - zq n x) := by
  have e : Q.pe (fun j => zq n (wz f x N j)) y 0 (N + 1) = Q.pe (fun j => (- zq n x) * (if j < N then zq n ((f j : Nat) : Int) else 0) + (if j = 0 then 0 else zq n ((f (j - 1) : Nat) : Int))) y 0 (N + 1) := by
    refine Q.pe_congr fun j _ hj => ?_
    have hp : zq n (pv f j) = if j = 0 then 0 else zq n ((f (j - 1) : Nat) : Int) := by
      unfold pv
      by_cases h : j = 0
      · rw [if_pos h, if_pos h, zq_0]
      · rw [if_neg h, if_neg h]
    show zq n (wz f x N j) = _
    unfold wz
    by_cases h : j < N
    · rw [if_pos h, if_pos h, zq_ma hn, zq_ng hn, hp]
    · rw [if_neg h, if_neg h, hp]; grind
  rw [e, Q.pe_add, Q.pe_mul, Q.pe_x (fun j => zq n ((f j : Nat) : Int)) y N]
  have e2 : Q.pe (fun j => if j < N then zq n ((f j : Nat) : Int) else 0) y 0 (N + 1) = Q.pe (fun j => zq n ((f j : Nat) : Int)) y 0 N := by
    rw [Q.pe_more 1 (fun i hi => if_neg (by omega))]
    exact Q.pe_congr fun i _ hi => if_pos (by omega)
  rw [e2]
  grind
theorem zq_zz (X : Nat → Int) (y : Fin n) : ∀ i, Q.pe (fun j => zq n (zz X i j)) y 0 (i + 1) = Q.pd (fun j => y - zq n (X j)) i
  | 0 => by
    show Q.pe (fun _ => zq n 1) y 1 0 * y + zq n 1 = 1
    rw [Q.pe_0, zq_1]; grind
  | i + 1 => by
    show Q.pe (fun j => zq n (wz (nT (zz X i)) (X i) (i + 1) j)) y 0 (i + 1 + 1) = Q.pd (fun j => y - zq n (X j)) i * (y - zq n (X i))
    rw [zq_wz hn, ← zq_zz X y i]
    congr 1
    exact Q.pe_congr fun j _ hj => by rw [nT_c _ _ (zz_r X i j (by omega)).1]
theorem zq_zv (X : Nat → Int) (i : Nat) : zq n (zv X i) = Q.pd (fun j => zq n (X i) - zq n (X j)) i := by
  unfold zv
  rw [zq_ev hn, ← zq_zz hn X (zq n (X i)) i]
  exact Q.pe_congr fun j _ hj => by rw [nT_c _ _ (zz_r X i j (by omega)).1]
omit hn in
theorem cc_hi (X Y : Nat → Int) : ∀ i j, i ≤ j → cc X Y i j = 0
  | 0, _, _ => rfl
  | i + 1, j, h => by
    show (if j < i + 1 then _ else cc X Y i j) = 0
    rw [if_neg (by omega)]; exact cc_hi X Y i j (by omega)
theorem zq_cc (X Y : Nat → Int) (i : Nat) (y : Fin n) : Q.pe (fun j => zq n (cc X Y (i + 1) j)) y 0 (i + 1) = Q.pe (fun j => zq n (cc X Y i j)) y 0 i + zq n (fac X Y i) * Q.pd (fun j => y - zq n (X j)) i := by
  have e : Q.pe (fun j => zq n (cc X Y (i + 1) j)) y 0 (i + 1) = Q.pe (fun j => zq n (fac X Y i) * zq n (zz X i j) + zq n (cc X Y i j)) y 0 (i + 1) := by
    refine Q.pe_congr fun j _ hj => ?_
    show zq n (if j < i + 1 then ma (fac X Y i) (zz X i j) (cc X Y i j) else cc X Y i j) = _
    rw [if_pos (by omega), zq_ma hn]
  rw [e, Q.pe_add, Q.pe_mul, zq_zz hn, Q.pe_more 1 (fun j hj => by rw [cc_hi X Y i j (by omega), zq_0])]
  grind
theorem zq_fac (X Y : Nat → Int) (i : Nat) (h : ¬ zv X i = 0) : zq n (fac X Y i) * zq n (zv X i) = zq n (Y i) - Q.pe (fun j => zq n (cc X Y i j)) (zq n (X i)) 0 i := by
  have hz := zv_rl X i
  obtain ⟨m, hm⟩ := Int.eq_ofNat_of_zero_le hz.1
  have hd : ¬ LN ∣ m := fun hd => by
    have h1 : (m : Int) < L := by have := hz.2; rw [hm] at this; exact this
    have h2 : m < LN := by have := LN_eq; omega
    have := Nat.eq_zero_of_dvd_of_lt hd h2
    subst this
    exact h hm
  have hi := iv_mul m hd
  have h1 : zq n (iv (zv X i)) * zq n (zv X i) = 1 := by
    rw [← zq_mul, ← zq_L hn, hm]
    rw [hm] at *
    rw [hi, zq_1]
  unfold fac
  rw [zq_ml hn, zq_sb hn, zq_ev hn]
  have e : Q.pe (fun j => zq n ((nT (cc X Y i) j : Nat) : Int)) (zq n (X i)) 0 i = Q.pe (fun j => zq n (cc X Y i j)) (zq n (X i)) 0 i := Q.pe_congr fun j _ _ => by rw [nT_c _ _ (cc_r X Y i j).1]
  rw [e]
  grind
/-- Newton's polynomial goes through its points. -/
theorem newton (X Y : Nat → Int) : ∀ N, (∀ j, j < N → ¬ zv X j = 0) → ∀ k, k < N → Q.pe (fun j => zq n (cc X Y N j)) (zq n (X k)) 0 N = zq n (Y k)
  | 0, _, k, hk => by omega
  | N + 1, h, k, hk => by
    rw [zq_cc hn]
    by_cases e : k = N
    · subst e
      rw [← zq_zv hn, zq_fac hn X Y k (h k (by omega))]
      grind
    · rw [newton X Y N (fun j hj => h j (by omega)) k (by omega), Q.pd_zero (i := k) (by omega) (by grind)]
      grind
omit hn in
theorem zq_nat (a : Fin n) : zq n ((a.val : Nat) : Int) = a := by
  apply Fin.ext
  have h := zq_val (n := n) ((a.val : Nat) : Int)
  have h2 : ((a.val : Nat) : Int) % (n : Int) = ((a.val : Nat) : Int) := Int.emod_eq_of_lt (by omega) (by have := a.isLt; omega)
  omega
theorem zq_dom (a b : Fin n) (h : a * b = 0) : a = 0 ∨ b = 0 := by
  by_cases h0 : a = 0
  · exact Or.inl h0
  · right
    have hd : ¬ LN ∣ a.val := fun hd => by
      have h2 : a.val < LN := by have := a.isLt; have := LN_eq; omega
      have h3 := Nat.eq_zero_of_dvd_of_lt hd h2
      exact h0 (Fin.ext (by rw [h3]; simp))
    have hi := iv_mul a.val hd
    have h1 : zq n (iv ((a.val : Nat) : Int)) * a = 1 := by
      have e : zq n (iv ((a.val : Nat) : Int) * ((a.val : Nat) : Int)) = 1 := by rw [← zq_L hn, hi, zq_1]
      rw [zq_mul, zq_nat] at e
      exact e
    have : b = zq n (iv ((a.val : Nat) : Int)) * a * b := by rw [h1]; grind
    rw [this]
    grind
theorem zq_is0 {x : Int} (h : RL x) : zq n x = 0 ↔ x = 0 := by
  constructor
  · intro e
    rw [← zq_0 (n := n), zq_eq, Int.zero_emod, Int.emod_eq_of_lt h.1 (by have := h.2; rw [← hn]; exact this)] at e
    exact e
  · intro e; rw [e, zq_0]
theorem zv_apart {X : Nat → Int} {N : Nat} (h : ∀ j, j < N → ¬ zv X j = 0) : ∀ i j, i < N → j < N → zq n (X i) = zq n (X j) → i = j := by
  have q : ∀ i j, i < N → j < i → ¬ zq n (X i) = zq n (X j) := fun i j hi hj e => by
    refine h i hi ((zq_is0 hn (zv_rl X i)).1 ?_)
    rw [zq_zv hn]
    exact Q.pd_zero (i := j) hj (by rw [e]; grind)
  intro i j hi hj e
  by_cases h1 : j < i
  · exact absurd e (q i j hi h1)
  · by_cases h2 : i < j
    · exact absurd e.symm (q j i hj h2)
    · omega
theorem zv_ne {X : Nat → Int} {i : Nat} (h1 : (1 : Fin n) ≠ 0) (h : ∀ j, j < i → ¬ zq n (X i) = zq n (X j)) : ¬ zv X i = 0 := fun e => by
  have q := (zq_is0 hn (zv_rl X i)).2 e
  rw [zq_zv hn] at q
  exact Q.pd_ne (zq_dom hn) h1 (fun j hj => fun e => h j hj (by grind)) q
/-- And no other does. -/
theorem newton_one {X Y : Nat → Int} {N : Nat} (h : ∀ j, j < N → ¬ zv X j = 0) (f : Nat → Nat) (hf : ∀ k, k < N → zq n (ev f (X k) 0 N) = zq n (Y k)) : ∀ j, j < N → zq n ((f j : Nat) : Int) = zq n (cc X Y N j) :=
  Q.pe_unique (zq_dom hn) N (fun j => zq n ((f j : Nat) : Int)) (fun j => zq n (cc X Y N j)) (fun k => zq n (X k)) (zv_apart hn h) (fun k hk => by
    have e := hf k hk
    rw [zq_ev hn] at e
    rw [newton hn X Y N h k hk]
    exact e)
end
end Go.Proofs.YtledggdoehnlcaaGreat

/- ShamirSafe: one polynomial, and no other. -/
set_option linter.unusedVariables false
set_option linter.unusedSimpArgs false
set_option linter.unnecessarySimpa false
namespace Go.Proofs.YtledggdoehnlcaaGreat
open Go.RowKit N

theorem rl_z : RL 0 := ⟨by decide, by decide⟩
theorem cc_rl (X Y : Nat → Int) : ∀ i j, RL (cc X Y i j)
  | 0, _ => rl_z
  | i + 1, j => by
    unfold cc
    by_cases h : j < i + 1
    · simp only [if_pos h]; exact rl_mod _
    · simp only [if_neg h]; exact cc_rl X Y i j
theorem LN_nz : NeZero LN := ⟨by unfold LN; decide⟩
theorem L_LN : L = (LN : Int) := LN_eq.symm
/-- The places: 0, and the shares'. -/
def sfX (d : Nat → Int) : Nat → Int := fun j => if j = 0 then 0 else d (j - 1)
def sfY (s : Int) (y : Nat → Int) : Nat → Int := fun j => if j = 0 then s else y (j - 1)
theorem sfX_s (d : Nat → Int) (j : Nat) : sfX d (j + 1) = d j := by unfold sfX; rw [if_neg (by omega), Nat.add_sub_cancel]
theorem sfY_s (s : Int) (y : Nat → Int) (j : Nat) : sfY s y (j + 1) = y j := by unfold sfY; rw [if_neg (by omega), Nat.add_sub_cancel]
theorem mod_id {x : Int} (h : RL x) : x % L = x := Int.emod_eq_of_lt h.1 (by have := h.2; unfold L; exact this)
theorem small_rl {x : Int} (h : 0 ≤ x ∧ x ≤ 255) : RL x := ⟨h.1, by omega⟩
/-- No two of the places are one. -/
theorem sf_ne {d : Nat → Int} {N : Nat} (h : idE d N = 0) : ∀ j, j < N + 1 → ¬ zv (sfX d) j = 0 := fun j hj => by
  haveI := LN_nz
  obtain ⟨q1, q2⟩ := idE_zero h
  have hr : ∀ i, i < N + 1 → RL (sfX d i) := fun i hi => by
    rcases i with _ | i
    · exact rl_z
    · rw [sfX_s]; have := q1 i (by omega); exact small_rl (by omega)
  refine zv_ne (n := LN) L_LN ?_ (fun i hi e => ?_)
  · intro e
    have h1 := (zq_is0 (n := LN) L_LN (x := 1) ⟨by decide, by decide⟩).1 (by rw [zq_1]; exact e)
    omega
  · have e2 := zq_eq.1 e
    rw [← L_LN, mod_id (hr j hj), mod_id (hr i (by omega))] at e2
    rcases i with _ | i
    · rcases j with _ | j
      · omega
      · rw [sfX_s] at e2
        have := q1 j (by omega)
        unfold sfX at e2
        rw [if_pos rfl] at e2
        omega
    · rcases j with _ | j
      · omega
      · rw [sfX_s, sfX_s] at e2
        have := q2 j i (by omega) (by omega) e2
        omega
theorem ev_cc {X Y : Nat → Int} {N : Nat} (h : ∀ j, j < N → ¬ zv X j = 0) {k : Nat} (hk : k < N) : ev (nT (cc X Y N)) (X k) 0 N = ad (Y k) 0 := by
  haveI := LN_nz
  have e : zq LN (ev (nT (cc X Y N)) (X k) 0 N) = zq LN (Y k) := by
    rw [zq_ev L_LN, ← newton L_LN X Y N h k hk]
    exact Q.pe_congr fun j _ _ => by rw [nT_c _ _ (cc_r X Y N j).1]
  have e2 := zq_eq.1 e
  rw [← L_LN, mod_id (ev_rl _ _ _ _)] at e2
  unfold ad
  rw [e2, Int.add_zero]
/-- A polynomial with the same values is the same. -/
theorem ev_only {X Y : Nat → Int} {N : Nat} (h : ∀ j, j < N → ¬ zv X j = 0) (f : Nat → Nat) (hf : ∀ k, k < N → ev f (X k) 0 N = ad (Y k) 0) : ∀ j, j < N → ad ((f j : Nat) : Int) 0 = cc X Y N j := fun j hj => by
  haveI := LN_nz
  have e := newton_one (n := LN) (X := X) (Y := Y) L_LN h f (fun k hk => by
    rw [hf k hk]
    unfold ad
    rw [Int.add_zero]
    exact zq_L L_LN _) j hj
  have e2 := zq_eq.1 e
  rw [← L_LN, mod_id (cc_rl X Y N j)] at e2
  unfold ad
  rw [Int.add_zero]
  exact e2
end Go.Proofs.YtledggdoehnlcaaGreat

/- Weights: what they come to. -/
set_option linter.unusedVariables false
set_option linter.unusedSimpArgs false
set_option linter.unnecessarySimpa false
namespace Go.Proofs.YtledggdoehnlcaaGreat
open Go.RowKit N

/-! ### withoutEach -/
/-- The product of those ahead. -/
def ahP (l : Nat → Int) : Nat → Int
  | 0 => 1
  | i + 1 => ml (ahP l i) (l i)
/-- The product of the last k of N. -/
def bhP (l : Nat → Int) (N : Nat) : Nat → Int
  | 0 => 1
  | k + 1 => ml (bhP l N k) (l (N - 1 - k))
/-- The product of all but one. -/
def weP (l : Nat → Int) (N i : Nat) : Int := ml (ahP l i) (bhP l N (N - 1 - i))
theorem ahP_r (l : Nat → Int) : ∀ i, R256 (ahP l i)
  | 0 => r256_c1
  | _ + 1 => r256_mod _
theorem bhP_r (l : Nat → Int) (N : Nat) : ∀ i, R256 (bhP l N i)
  | 0 => r256_c1
  | _ + 1 => r256_mod _
theorem weP_r (l : Nat → Int) (N i : Nat) : R256 (weP l N i) := r256_mod _
theorem ahP_congr {l m : Nat → Int} : ∀ {i : Nat}, (∀ j, j < i → l j = m j) → ahP l i = ahP m i
  | 0, _ => rfl
  | i + 1, h => by unfold ahP; rw [ahP_congr (fun j hj => h j (by omega)), h i (by omega)]
theorem bhP_congr {l m : Nat → Int} {N : Nat} : ∀ {k : Nat}, k ≤ N → (∀ j, j < N → l j = m j) → bhP l N k = bhP m N k
  | 0, _, _ => rfl
  | k + 1, hk, h => by unfold bhP; rw [bhP_congr (by omega) h, h _ (by omega)]
theorem weP_congr {l m : Nat → Int} {N i : Nat} (hi : i < N) (h : ∀ j, j < N → l j = m j) : weP l N i = weP m N i := by
  unfold weP
  rw [ahP_congr (fun j hj => h j (by omega)), bhP_congr (by omega) h]
namespace Q
variable {n : Nat} [NeZero n]
theorem pd_split (f : Nat → Fin n) (i : Nat) : ∀ k, pd f (i + k) = pd f i * pd (fun j => f (i + j)) k
  | 0 => by show pd f i = pd f i * 1; grind
  | k + 1 => by
    show pd f (i + k) * f (i + k) = pd f i * (pd (fun j => f (i + j)) k * f (i + k))
    rw [pd_split f i k]; grind
theorem pd_rev (f : Nat → Fin n) : ∀ k, pd (fun j => f (k - 1 - j)) k = pd f k
  | 0 => rfl
  | k + 1 => by
    have h := pd_split (fun j => f (k + 1 - 1 - j)) 1 k
    rw [Nat.add_comm 1 k] at h
    rw [h]
    have e : pd (fun j => f (k + 1 - 1 - (1 + j))) k = pd f k := by
      rw [← pd_rev f k]
      exact pd_congr fun j hj => by rw [show k + 1 - 1 - (1 + j) = k - 1 - j by omega]
    rw [e]
    show 1 * f (k + 1 - 1 - 0) * pd f k = pd f k * f k
    rw [show k + 1 - 1 - 0 = k by omega]
    grind
theorem pdx_eq (f : Nat → Fin n) (i k : Nat) : pdx f i (i + 1 + k) = pd f i * pd (fun j => f (i + 1 + j)) k := by
  unfold pdx
  rw [pd_split _ (i + 1) k]
  have e1 : pd (fun j => if j = i then 1 else f j) (i + 1) = pd f i := by
    show pd _ i * (if i = i then 1 else f i) = _
    rw [if_pos rfl, pd_congr (g := f) (fun j hj => if_neg (by omega))]
    grind
  rw [e1, pd_congr (g := fun j => f (i + 1 + j)) (fun j hj => if_neg (by omega))]
theorem pdx_congr {f g : Nat → Fin n} {i k : Nat} (h : ∀ j, j < k → ¬ j = i → f j = g j) : pdx f i k = pdx g i k := by
  unfold pdx
  refine pd_congr fun j hj => ?_
  by_cases e : j = i
  · rw [if_pos e, if_pos e]
  · rw [if_neg e, if_neg e, h j hj e]
end Q
section
variable {n : Nat} [NeZero n] (hn : L = (n : Int))
include hn
theorem zq_ahP (l : Nat → Int) : ∀ i, zq n (ahP l i) = Q.pd (fun j => zq n (l j)) i
  | 0 => zq_1
  | i + 1 => by
    show zq n (ml (ahP l i) (l i)) = Q.pd (fun j => zq n (l j)) i * zq n (l i)
    rw [zq_ml hn, zq_ahP l i]
theorem zq_bhP (l : Nat → Int) (N : Nat) : ∀ k, zq n (bhP l N k) = Q.pd (fun j => zq n (l (N - 1 - j))) k
  | 0 => zq_1
  | k + 1 => by
    show zq n (ml (bhP l N k) (l (N - 1 - k))) = Q.pd (fun j => zq n (l (N - 1 - j))) k * zq n (l (N - 1 - k))
    rw [zq_ml hn, zq_bhP l N k]
theorem zq_weP (l : Nat → Int) (N i : Nat) (hi : i < N) : zq n (weP l N i) = Q.pdx (fun j => zq n (l j)) i N := by
  unfold weP
  rw [zq_ml hn, zq_ahP hn, zq_bhP hn]
  obtain ⟨k, rfl⟩ : ∃ k, N = i + 1 + k := ⟨N - (i + 1), by omega⟩
  rw [Q.pdx_eq, show i + 1 + k - 1 - i = k by omega]
  congr 1
  rw [← Q.pd_rev (fun j => zq n (l (i + 1 + j))) k]
  exact Q.pd_congr fun j hj => by rw [show i + 1 + k - 1 - j = i + 1 + (k - 1 - j) by omega]
theorem zq_pL (f : Nat → Nat) : ∀ k, zq n (pL f k) = Q.pd (fun j => zq n ((f j : Nat) : Int)) k
  | 0 => by rw [pL_0]; exact zq_1
  | k + 1 => by
    have h := pL_s f k
    have e : zq n (pL f (k + 1)) = zq n (pL f k) * zq n ((f k : Nat) : Int) := by
      rw [← zq_L hn (pL f (k + 1)), ← h, zq_L hn, zq_mul, zq_L hn, zq_L hn]
    rw [e, zq_pL f k]
    rfl
theorem zq_dsL (x : Int) (d : Nat → Int) (but : Int) : ∀ k, Q.pd (fun j => zq n ((((dsL x d but k).getD j 0).toNat : Nat) : Int)) (dsL x d but k).length = Q.pd (fun j => if d j = but then 1 else zq n x - zq n (d j)) k
  | 0 => rfl
  | k + 1 => by
    have ih := zq_dsL x d but k
    by_cases h : d k = but
    · have e : dsL x d but (k + 1) = dsL x d but k := by show (if d k = but then _ else _) = _; rw [if_pos h]
      rw [e, ih]
      show _ = Q.pd (fun j => if d j = but then 1 else zq n x - zq n (d j)) k * (if d k = but then 1 else zq n x - zq n (d k))
      rw [if_pos h]
      grind
    · have e : dsL x d but (k + 1) = dsL x d but k ++ [sb x (d k)] := by show (if d k = but then _ else _) = _; rw [if_neg h]
      rw [e, List.length_append]
      show Q.pd _ (dsL x d but k).length * zq n ((((dsL x d but k ++ [sb x (d k)]).getD (dsL x d but k).length 0).toNat : Nat) : Int) = Q.pd (fun j => if d j = but then 1 else zq n x - zq n (d j)) k * (if d k = but then 1 else zq n x - zq n (d k))
      rw [if_neg h]
      have e1 : (dsL x d but k ++ [sb x (d k)]).getD (dsL x d but k).length 0 = sb x (d k) := by simp [List.getD_eq_getElem?_getD]
      have hnn : 0 ≤ sb x (d k) := (r256_mod _).1
      rw [e1, Int.toNat_of_nonneg hnn, zq_sb hn, ← ih]
      congr 1
      exact Q.pd_congr fun j hj => by simp [List.getD_eq_getElem?_getD, List.getElem?_append_left hj]
/-- The product of an identifier's distances. -/
theorem zq_gpv {d : Nat → Int} {N i : Nat} (hi : i < N) (hd : ∀ i j, i < N → j < N → d i = d j → i = j) : zq n (gpv d N i) = Q.pdx (fun j => zq n (d i) - zq n (d j)) i N := by
  unfold gpv
  rw [zq_L hn, zq_pL hn, zq_dsL hn]
  unfold Q.pdx
  refine Q.pd_congr fun j hj => ?_
  by_cases e : j = i
  · subst e; rw [if_pos rfl, if_pos rfl]
  · rw [if_neg e, if_neg (fun e2 => e (hd j i hj hi e2))]
end
theorem id_rl {d : Nat → Int} {N : Nat} (h : ∀ i, i < N → 1 ≤ d i ∧ d i ≤ 255) {i : Nat} (hi : i < N) : RL (d i) := small_rl (by have := h i hi; omega)
/-- No product of distances is 0. -/
theorem gpv_ne {d : Nat → Int} {N : Nat} (h : idE d N = 0) {i : Nat} (hi : i < N) : ¬ LN ∣ (gpv d N i).toNat := fun hd => by
  haveI := LN_nz
  obtain ⟨q1, q2⟩ := idE_zero h
  have hr := gpv_rl d N i
  have h0 : gpv d N i = 0 := by
    have h2 : (gpv d N i).toNat < LN := by have := hr.2; have e := LN_eq; unfold L at e; have := hr.1; omega
    have := Nat.eq_zero_of_dvd_of_lt hd h2
    have := hr.1
    omega
  have e := (zq_is0 (n := LN) L_LN hr).2 h0
  rw [zq_gpv L_LN hi q2] at e
  refine Q.pd_ne (zq_dom L_LN) ?_ (fun j hj => ?_) e
  · intro e
    have h1 := (zq_is0 (n := LN) L_LN (x := 1) ⟨by decide, by decide⟩).1 (by rw [zq_1]; exact e)
    omega
  · by_cases e2 : j = i
    · rw [if_pos e2]
      intro e
      have h1 := (zq_is0 (n := LN) L_LN (x := 1) ⟨by decide, by decide⟩).1 (by rw [zq_1]; exact e)
      omega
    · rw [if_neg e2]
      intro e
      have e3 : zq LN (d i) = zq LN (d j) := by grind
      have e4 := zq_eq.1 e3
      rw [← L_LN, mod_id (id_rl q1 hi), mod_id (id_rl q1 hj)] at e4
      exact e2 (q2 j i hj hi e4.symm)
/-- The weight of an identifier at x. -/
def wtv (x : Int) (d : Nat → Int) (N i : Nat) : Int := ml (weP (fun j => sb x (d j)) N i) (igv d N i)
theorem wtv_rl (x : Int) (d : Nat → Int) (N i : Nat) : RL (wtv x d N i) := rl_mod _
theorem igv_one {d : Nat → Int} {N : Nat} (h : idE d N = 0) {i : Nat} (hi : i < N) : igv d N i * gpv d N i % L = 1 := by
  have hr := gpv_rl d N i
  have hm := iv_mul (gpv d N i).toNat (gpv_ne h hi)
  rw [Int.toNat_of_nonneg hr.1] at hm
  exact hm
theorem zq_igv {d : Nat → Int} {N : Nat} (h : idE d N = 0) {i : Nat} (hi : i < N) : haveI := LN_nz; zq LN (igv d N i) * Q.pdx (fun j => zq LN (d i) - zq LN (d j)) i N = 1 := by
  haveI := LN_nz
  obtain ⟨q1, q2⟩ := idE_zero h
  rw [← zq_gpv L_LN hi q2, ← zq_mul, ← zq_L L_LN, igv_one h hi]
  exact zq_1
theorem zq_wtv (x : Int) (d : Nat → Int) {N i : Nat} (hi : i < N) : haveI := LN_nz; zq LN (wtv x d N i) = zq LN (igv d N i) * Q.pdx (fun j => zq LN x - zq LN (d j)) i N := by
  haveI := LN_nz
  unfold wtv
  rw [zq_ml L_LN, zq_weP L_LN _ N i hi]
  have e : Q.pdx (fun j => zq LN (sb x (d j))) i N = Q.pdx (fun j => zq LN x - zq LN (d j)) i N := Q.pdx_congr fun j _ _ => zq_sb L_LN _ _
  rw [e]
  grind
/-- The sum of the weights times values. -/
def wsum (x : Int) (d y : Nat → Int) (N : Nat) : Nat → Int
  | 0 => 0
  | k + 1 => ma (wtv x d N k) (y k) (wsum x d y N k)
theorem wsum_rl (x : Int) (d y : Nat → Int) (N : Nat) : ∀ k, RL (wsum x d y N k)
  | 0 => rl_z
  | _ + 1 => rl_mod _
theorem zq_wsum (x : Int) (d y : Nat → Int) (N : Nat) : haveI := LN_nz; ∀ k, zq LN (wsum x d y N k) = Q.sm (fun i => zq LN (wtv x d N i) * zq LN (y i)) k
  | 0 => by haveI := LN_nz; exact zq_0
  | k + 1 => by
    haveI := LN_nz
    show zq LN (ma (wtv x d N k) (y k) (wsum x d y N k)) = Q.sm (fun i => zq LN (wtv x d N i) * zq LN (y i)) k + zq LN (wtv x d N k) * zq LN (y k)
    rw [zq_ma L_LN, zq_wsum x d y N k]
    grind
/-- Lagrange: of the values of a polynomial of no more coefficients than there are places, it is the value at x. -/
theorem wsum_ev {d : Nat → Int} {N : Nat} (h : idE d N = 0) (x : Int) (f : Nat → Nat) (y : Nat → Int) {T : Nat} (hT : T ≤ N) (hy : ∀ i, i < N → y i % L = ev f (d i) 0 T) : wsum x d y N N = ev f x 0 T := by
  haveI := LN_nz
  obtain ⟨q1, q2⟩ := idE_zero h
  have hl := Q.lagrange (n := LN) (zq_dom L_LN) (m := N) (fun i => zq LN (d i)) (fun i => zq LN (igv d N i))
    (fun i j hi hj e => by
      have e4 := zq_eq.1 e
      rw [← L_LN, mod_id (id_rl q1 hi), mod_id (id_rl q1 hj)] at e4
      exact q2 i j hi hj e4)
    (fun i hi => zq_igv h hi) (g := fun z => Q.pe (fun j => zq LN ((f j : Nat) : Int)) z 0 T)
    (by
      have q := (Q.Isp.of (fun j => zq LN ((f j : Nat) : Int)) T).more (N - T)
      rwa [Nat.add_sub_cancel' hT] at q) (zq LN x)
  have e : zq LN (wsum x d y N N) = zq LN (ev f x 0 T) := by
    rw [zq_wsum, zq_ev L_LN, ← hl]
    refine Q.sm_congr fun i hi => ?_
    show _ = _ * _ * Q.pe (fun j => zq LN ((f j : Nat) : Int)) (zq LN (d i)) 0 T
    rw [zq_wtv x d hi, ← zq_ev L_LN, ← hy i hi, zq_L L_LN]
  have e2 := zq_eq.1 e
  rw [← L_LN, mod_id (wsum_rl x d y N N), mod_id (ev_rl _ _ _ _)] at e2
  exact e2
end Go.Proofs.YtledggdoehnlcaaGreat

/- ShamirBack: the mathematics. -/
set_option linter.unusedVariables false
set_option linter.unusedSimpArgs false
set_option linter.unnecessarySimpa false
namespace Go.Proofs.YtledggdoehnlcaaGreat
open Go.RowKit N

theorem id_ne {d : Nat → Int} {N : Nat} (h : idE d N = 0) : ∀ j, j < N → ¬ zv d j = 0 := fun j hj => by
  haveI := LN_nz
  obtain ⟨q1, q2⟩ := idE_zero h
  refine zv_ne (n := LN) L_LN ?_ (fun i hi e => ?_)
  · intro e
    have h1 := (zq_is0 (n := LN) L_LN (x := 1) ⟨by decide, by decide⟩).1 (by rw [zq_1]; exact e)
    omega
  · have e2 := zq_eq.1 e
    rw [← L_LN, mod_id (id_rl q1 hj), mod_id (id_rl q1 (by omega))] at e2
    have := q2 j i hj (by omega) e2
    omega
theorem kn_no {f : Nat → Int} {i : Nat} {n : Nat} (hn : f i = (n : Int)) (h : ∀ j, j < i → ¬ f j = f i) : kn f i n = false := by
  unfold kn; rw [List.any_eq_false]; intro j hj; have := h j (List.mem_range.1 hj); rw [hn] at this; simpa using this
theorem idE_mk {f : Nat → Int} : ∀ {N : Nat}, (∀ i, i < N → 1 ≤ f i ∧ f i ≤ 255) → (∀ i j, i < N → j < N → f i = f j → i = j) → idE f N = 0
  | 0, _, _ => rfl
  | N + 1, h, hd => by
    have h0 := idE_mk (N := N) (fun i hi => h i (by omega)) (fun i j hi hj => hd i j (by omega) (by omega))
    have hb := h N (by omega)
    obtain ⟨n, hn⟩ : ∃ n : Nat, f N = (n : Int) := ⟨(f N).toNat, by omega⟩
    exact idE_ok h0 hb hn (kn_no hn (fun j hj e => by have := hd j N (by omega) (by omega) e; omega))
theorem ev_cong {f g : Nat → Nat} (x : Int) {T : Nat} (h : ∀ j, j < T → ((f j : Nat) : Int) % L = ((g j : Nat) : Int) % L) : ev f x 0 T = ev g x 0 T := by
  haveI := LN_nz
  have e : zq LN (ev f x 0 T) = zq LN (ev g x 0 T) := by
    rw [zq_ev L_LN, zq_ev L_LN]
    refine Q.pe_congr fun j _ hj => ?_
    rw [zq_eq, ← L_LN]
    exact h j (by omega)
  have e2 := zq_eq.1 e
  rw [← L_LN, mod_id (ev_rl _ _ _ _), mod_id (ev_rl _ _ _ _)] at e2
  exact e2
theorem stL_nil {f : Nat → Nat} {M : Nat} {d y : Nat → Int} : ∀ {N : Nat}, (∀ i, i < N → ev f (d i) 0 M = cn (y i)) → stL f M d y N = []
  | 0, _ => rfl
  | N + 1, h => by
    unfold stL
    rw [if_pos (h N (by omega))]
    exact stL_nil fun i hi => h i (by omega)
/-- Through the first of the shares: the polynomial itself. -/
theorem cc_of_ev {d y : Nat → Int} {N T : Nat} {f : Nat → Nat} (h : idE d N = 0) (hT : T ≤ N) (hy : ∀ i, i < N → y i = ev f (d i) 0 T) : ∀ j, j < T → cc d y T j = ad ((f j : Nat) : Int) 0 := fun j hj => by
  refine (ev_only (X := d) (Y := y) (fun j hj => id_ne h j (by omega)) f (fun k hk => ?_) j hj).symm
  rw [← hy k (by omega)]
  unfold ad
  rw [Int.add_zero, hy k (by omega), mod_id (ev_rl _ _ _ _)]
theorem st_of_ev {d y : Nat → Int} {N T : Nat} {f : Nat → Nat} (h : idE d N = 0) (hT : T ≤ N) (hy : ∀ i, i < N → y i = ev f (d i) 0 T) : stL (nT (cc d y T)) T d y N = [] := stL_nil fun i hi => by
  have e : ev (nT (cc d y T)) (d i) 0 T = ev f (d i) 0 T := ev_cong (d i) fun j hj => by
    rw [nT_c _ _ (cc_r d y T j).1, cc_of_ev h hT hy j hj]
    unfold ad
    rw [Int.add_zero, Int.emod_emod_of_dvd _ (Int.dvd_refl L)]
  rw [e, hy i hi]
  exact (mod_id (ev_rl _ _ _ _)).symm
theorem rc_of_ev {d y : Nat → Int} {N T : Nat} {f : Nat → Nat} (h : idR d N = 0) (h1 : 0 < T) (hT : T ≤ N) (hy : ∀ i, i < N → y i = ev f (d i) 0 T) : RcR d y N (T : Int) = (ad ((f 0 : Nat) : Int) 0, 0) := by
  have h0 := (idR_zero h).1
  have hl := idE_len h0
  have he : enR d N (T : Int) = 0 := by unfold enR; rw [if_pos (by omega), if_neg (by omega), h]
  unfold RcR
  rw [if_neg (by simp [he]), Int.toNat_natCast, if_pos (st_of_ev h0 hT hy), cc_of_ev h0 hT hy 0 h1]
theorem idE_valsB (f : Nat → Int) : ∀ k, idE f k = 0 ∨ idE f k = 4 ∨ idE f k = 5
  | 0 => Or.inl rfl
  | k + 1 => by
    unfold idE
    rcases idE_valsB f k with h | h | h
    · rw [if_pos h]; split
      · split
        · exact Or.inr (Or.inr rfl)
        · exact Or.inl rfl
      · exact Or.inr (Or.inl rfl)
    · rw [if_neg (by rw [h]; decide)]; exact Or.inr (Or.inl h)
    · rw [if_neg (by rw [h]; decide)]; exact Or.inr (Or.inr h)
theorem idR_wrap (f : Nat → Int) (N : Nat) : IntKind.i64.wrap (idR f N) = idR f N := by
  have h : idR f N = 0 ∨ idR f N = 4 ∨ idR f N = 5 ∨ idR f N = 8 := by
    unfold idR
    split
    · exact Or.inr (Or.inr (Or.inr rfl))
    · rcases idE_valsB f N with h | h | h <;> simp [h]
  rw [IntKind.wrap_i64]
  omega
end Go.Proofs.YtledggdoehnlcaaGreat
