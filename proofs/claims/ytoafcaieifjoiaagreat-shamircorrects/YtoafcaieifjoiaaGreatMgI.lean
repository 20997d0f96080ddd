/- Joined: CoM, CoB, CoE, CoK, CoR, GsM. -/
import Derived.Test.YtoafcaieifjoiaaGreatMgH
/- Moments: a polynomial of fewer coefficients than there are points has none at the top. -/
set_option linter.unusedVariables false
set_option linter.unusedSimpArgs false
set_option linter.unnecessarySimpa false
namespace Go.Proofs.YtoafcaieifjoiaaGreat.Q
variable {n : Nat} [NeZero n]

theorem sm_mul (a : Fin n) (f : Nat → Fin n) : ∀ k, sm (fun i => a * f i) k = a * sm f k
  | 0 => by show (0 : Fin n) = a * 0; grind
  | k + 1 => by show sm (fun i => a * f i) k + a * f k = a * (sm f k + f k); rw [sm_mul a f k]; grind
theorem sm_add (f g : Nat → Fin n) : ∀ k, sm (fun i => f i + g i) k = sm f k + sm g k
  | 0 => by show (0 : Fin n) = 0 + 0; grind
  | k + 1 => by show sm (fun i => f i + g i) k + (f k + g k) = sm f k + f k + (sm g k + g k); rw [sm_add f g k]; grind
theorem pdx_s (f : Nat → Fin n) (i k : Nat) : pdx f i (k + 1) = pdx f i k * (if k = i then 1 else f k) := rfl
theorem pdx_hi (f : Nat → Fin n) (i : Nat) : ∀ k, k ≤ i → pdx f i k = pd f k
  | 0, _ => rfl
  | k + 1, h => by
    rw [pdx_s, pdx_hi f i k (by omega), if_neg (by omega)]; rfl
theorem pdx_mul (f : Nat → Fin n) (i : Nat) : ∀ k, i < k → pdx f i k * f i = pd f k
  | 0, h => by omega
  | k + 1, h => by
    rw [pdx_s]
    show _ = pd f k * f k
    by_cases e : k = i
    · subst e
      rw [if_pos rfl, pdx_hi f k k (Nat.le_refl _)]; grind
    · rw [if_neg e, ← pdx_mul f i k (by omega)]; grind
/-- The sum over all places of a value over its gap is 0 for a polynomial of fewer coefficients than places. -/
theorem top0 (hz : ∀ a b : Fin n, a * b = 0 → a = 0 ∨ b = 0) {N : Nat} (x w : Nat → Fin n) (hx : ∀ i j, i < N + 1 → j < N + 1 → x i = x j → i = j) (hw : ∀ i, i < N + 1 → w i * pdx (fun j => x i - x j) i (N + 1) = 1) {g : Fin n → Fin n} (q : Isp g N) :
    sm (fun i => w i * g (x i)) (N + 1) = 0 := by
  have l := lagrange hz (m := N) x (fun i => w i * (x i - x N)) (fun i j hi hj => hx i j (by omega) (by omega)) (fun i hi => by
    have h := hw i (by omega)
    rw [pdx_s, if_neg (by omega)] at h
    rw [← h]; grind) q (x N)
  have hN := hw N (by omega)
  rw [pdx_s, if_pos rfl, pdx_hi _ N N (Nat.le_refl _)] at hN
  have e : sm (fun i => w i * (x i - x N) * pdx (fun j => x N - x j) i N * g (x i)) N = (0 - pd (fun j => x N - x j) N) * sm (fun i => w i * g (x i)) N := by
    rw [← sm_mul]
    refine sm_congr fun i hi => ?_
    have h := pdx_mul (fun j => x N - x j) i N hi
    rw [← h]; grind
  rw [e] at l
  show sm (fun i => w i * g (x i)) N + w N * g (x N) = 0
  rw [← l]
  generalize sm (fun i => w i * g (x i)) N = S
  generalize pd (fun j => x N - x j) N = P at hN
  have h2 : w N * P = 1 := by grind
  have h3 : w N * ((0 - P) * S) = 0 - (w N * P) * S := by grind
  rw [h3, h2]; grind
end Go.Proofs.YtoafcaieifjoiaaGreat.Q

/- Berlekamp and Welch: a locator is 0 at every wrong place. -/
namespace Go.Proofs.YtoafcaieifjoiaaGreat.Q
variable {n : Nat} [NeZero n]

theorem Isp.cong {h g : Fin n → Fin n} {m : Nat} (q : Isp h m) (e : ∀ x, h x = g x) : Isp g m := by
  obtain ⟨c, h1, h2⟩ := q
  exact ⟨c, h1, fun x => (e x).symm.trans (h2 x)⟩
theorem pe_first (c : Nat → Fin n) (x : Fin n) (m : Nat) : pe c x 0 (m + 1) = pe (fun i => c (i + 1)) x 0 m * x + c 0 := by
  rw [pe_s, ← pe_shift (fun i => c (i + 1)) x m 0]
  congr 2
  exact pe_congr fun i h1 _ => by show c i = c (i - 1 + 1); rw [Nat.sub_add_cancel (by omega)]
/-- A product of polynomials. -/
theorem Isp.prod {h : Fin n → Fin n} {a : Nat} (q : Isp h a) : ∀ (b : Nat) (c : Nat → Fin n), Isp (fun x => h x * pe c x 0 (b + 1)) (a + b)
  | 0, c => (q.mul (c 0)).cong fun x => by rw [pe_s, pe_0]; grind
  | b + 1, c => by
    have r := (Isp.prod q b (fun i => c (i + 1))).lin 0
    have s := ((q.mul (c 0)).more (b + 1)).add r
    exact s.cong fun x => by rw [pe_first c x (b + 1)]; grind
theorem Isp.times {h g : Fin n → Fin n} {a b : Nat} (q : Isp h a) (r : Isp g (b + 1)) : Isp (fun x => h x * g x) (a + b) := by
  obtain ⟨c, _, h2⟩ := r
  exact (Isp.prod q b c).cong fun x => by rw [h2 x]
/-- How many of the first k are marked. -/
def cnt (b : Nat → Bool) : Nat → Nat
  | 0 => 0
  | k + 1 => cnt b k + if b k = true then 1 else 0
theorem cnt_s (b : Nat → Bool) (k : Nat) : cnt b (k + 1) = cnt b k + if b k = true then 1 else 0 := rfl
theorem cnt_le (b c : Nat → Bool) (h : ∀ j, b j = true → c j = true) : ∀ k, cnt b k ≤ cnt c k
  | 0 => Nat.le_refl _
  | k + 1 => by
    have := cnt_le b c h k
    have q := h k
    unfold cnt
    split <;> split <;> simp_all <;> omega
theorem cnt_lt (b c : Nat → Bool) (h : ∀ j, b j = true → c j = true) {i : Nat} (hb : b i = false) (hc : c i = true) : ∀ k, i < k → cnt b k + 1 ≤ cnt c k
  | 0, hi => by omega
  | k + 1, hi => by
    unfold cnt
    by_cases e : k = i
    · subst e
      have := cnt_le b c h k
      simp [hb, hc]; omega
    · have := cnt_lt b c h hb hc k (by omega)
      have q := h k
      split <;> split <;> simp_all <;> omega
/-- The product over the marked places. -/
def pdw (x : Nat → Fin n) (b : Nat → Bool) (y : Fin n) : Nat → Fin n := pd (fun j => if b j = true then y - x j else 1)
theorem Isp.pdw (x : Nat → Fin n) (b : Nat → Bool) : ∀ k, Isp (fun y => Q.pdw x b y k) (cnt b k + 1)
  | 0 => Isp.const 1
  | k + 1 => by
    have q := Isp.pdw x b k
    by_cases e : b k = true
    · have r := q.lin (x k)
      have e2 : cnt b (k + 1) + 1 = cnt b k + 1 + 1 := by rw [cnt_s, if_pos e]
      rw [e2]
      exact r.cong fun y => by show _ = Q.pd _ k * (if b k = true then y - x k else 1); rw [if_pos e]; rfl
    · have e2 : cnt b (k + 1) + 1 = cnt b k + 1 := by rw [cnt_s, if_neg e]
      rw [e2]
      exact q.cong fun y => by show _ = Q.pd _ k * (if b k = true then y - x k else 1); rw [if_neg e]; show Q.pdw x b y k = Q.pdw x b y k * 1; grind
/-- A locator is 0 at every wrong place. -/
theorem bw (hz : ∀ a b : Fin n, a * b = 0 → a = 0 ∨ b = 0) (h1 : (1 : Fin n) ≠ 0) {N T e K : Nat} (hN : T + e + K = N + 1) (hK : e ≤ K) (x y w : Nat → Fin n) (hx : ∀ i j, i < N + 1 → j < N + 1 → x i = x j → i = j) (hw : ∀ i, i < N + 1 → w i * pdx (fun j => x i - x j) i (N + 1) = 1)
    (f loc : Fin n → Fin n) (hf : Isp f T) (hl : Isp loc (e + 1)) (bad : Nat → Bool) (hb : ∀ i, i < N + 1 → bad i = false → y i = f (x i)) (hc : cnt bad (N + 1) ≤ e)
    (hm : ∀ p : Fin n → Fin n, Isp p K → sm (fun i => w i * (y i * loc (x i) * p (x i))) (N + 1) = 0) : ∀ i, i < N + 1 → bad i = true → ¬ y i = f (x i) → loc (x i) = 0 := fun i hi hbi hne => by
  have hlt := cnt_lt (fun j => bad j && !decide (j = i)) bad (fun j h => by simp at h; exact h.1) (i := i) (by simp) hbi (N + 1) hi
  obtain ⟨r, hr⟩ : ∃ r, K = cnt (fun j => bad j && !decide (j = i)) (N + 1) + 1 + r := ⟨K - (cnt (fun j => bad j && !decide (j = i)) (N + 1) + 1), by omega⟩
  have hp : Isp (fun z => pdw x (fun j => bad j && !decide (j = i)) z (N + 1)) K := hr ▸ (Isp.pdw x (fun j => bad j && !decide (j = i)) (N + 1)).more r
  obtain ⟨p, ep⟩ : ∃ p : Fin n → Fin n, (fun z => pdw x (fun j => bad j && !decide (j = i)) z (N + 1)) = p := ⟨_, rfl⟩
  have hp0 : ∀ j, j < N + 1 → bad j = true → ¬ j = i → p (x j) = 0 := fun j hj hbj hji => by
    rw [← ep]
    exact pd_zero (i := j) hj (by rw [if_pos (by simp [hbj, hji])]; grind)
  have hpi : p (x i) ≠ 0 := by
    rw [← ep]
    refine pd_ne hz h1 fun j hj => ?_
    by_cases q : (bad j && !decide (j = i)) = true
    · rw [if_pos q]
      intro h
      have h2 : x i = x j := by grind
      have := hx i j hi hj h2
      simp at q
      omega
    · rw [if_neg q]; exact h1
  rw [ep] at hp
  have a1 := hm p hp
  have hK1 : ∃ k, K = k + 1 := ⟨cnt (fun j => bad j && !decide (j = i)) (N + 1) + r, by omega⟩
  obtain ⟨k, ek⟩ := hK1
  have g1 : Isp (fun z => f z * loc z * p z) N := by
    have := (hf.times hl).times (ek ▸ hp)
    have e2 : T + e + k = N := by omega
    rwa [e2] at this
  have a2 := top0 hz x w hx hw g1
  have a3 : sm (fun j => w j * (y j - f (x j)) * loc (x j) * p (x j)) (N + 1) = 0 := by
    have s := sm_add (fun j => w j * (y j * loc (x j) * p (x j))) (fun j => (0 - 1) * (w j * (f (x j) * loc (x j) * p (x j)))) (N + 1)
    rw [sm_mul, a1, a2] at s
    have e3 : (0 : Fin n) + (0 - 1) * 0 = 0 := by grind
    rw [e3] at s
    rw [← s]
    exact sm_congr fun j _ => by grind
  rw [sm_one (i := i) hi (fun j hj hji => ?_)] at a3
  · have hwi : w i ≠ 0 := fun h => by
      have q := hw i hi
      rw [h] at q
      exact h1 (by rw [← q]; grind)
    rcases hz _ _ a3 with q | q
    · rcases hz _ _ q with q | q
      · rcases hz _ _ q with q | q
        · exact absurd q hwi
        · exact absurd (by grind) hne
      · exact q
    · exact absurd q hpi
  · by_cases q : bad j = true
    · rw [hp0 j hj q hji]; grind
    · rw [hb j hj (by simpa using q)]; grind
end Go.Proofs.YtoafcaieifjoiaaGreat.Q

/- Elimination over a field: what the rows say stays the same. -/
namespace Go.Proofs.YtoafcaieifjoiaaGreat.Q
variable {n : Nat} [NeZero n]

/-- v is in the kernel of m rows of width W. -/
def Ker (R : Nat → Nat → Fin n) (m W : Nat) (v : Nat → Fin n) : Prop := ∀ i, i < m → sm (fun j => R i j * v j) W = 0
/-- The columns ahead of c have a 1 in their row, and 0 in all others. -/
def Inv (R : Nat → Nat → Fin n) (m c : Nat) : Prop := ∀ k, k < c → k < m ∧ R k k = 1 ∧ ∀ i, i < m → ¬ i = k → R i k = 0
theorem sm_zero {f : Nat → Fin n} : ∀ {k : Nat}, (∀ i, i < k → f i = 0) → sm f k = 0
  | 0, _ => rfl
  | k + 1, h => by show sm f k + f k = 0; rw [sm_zero fun i hi => h i (by omega), h k (by omega)]; grind
/-- The column without a row gives a vector of the kernel. -/
theorem el_loc {R : Nat → Nat → Fin n} {m W c : Nat} (h : Inv R m c) (hc : c < W) (h0 : ∀ i, c ≤ i → i < m → R i c = 0) : Ker R m W (fun j => if j < c then 0 - R j c else if j = c then 1 else 0) := fun i hi => by
  by_cases q : i < c
  · have e : ∀ j, j < W → R i j * (if j < c then 0 - R j c else if j = c then 1 else 0) = (if j = i then 0 - R i c else 0) + (if j = c then R i c else 0) := fun j _ => by
      by_cases a : j < c
      · rw [if_pos a, if_neg (show ¬ j = c by omega)]
        by_cases b : j = i
        · subst b
          rw [if_pos rfl, (h j a).2.1]; grind
        · rw [if_neg b, (h j a).2.2 i hi (by omega)]; grind
      · rw [if_neg a, if_neg (show ¬ j = i by omega)]
        by_cases b : j = c
        · subst b
          rw [if_pos rfl, if_pos rfl]; grind
        · rw [if_neg b, if_neg b]; grind
    rw [sm_congr e, sm_add, sm_one (i := i) (by omega) (fun j _ hj => if_neg hj), sm_one (i := c) hc (fun j _ hj => if_neg hj), if_pos rfl, if_pos rfl]
    grind
  · refine sm_zero fun j _ => ?_
    show R i j * (if j < c then 0 - R j c else if j = c then 1 else 0) = 0
    by_cases a : j < c
    · rw [(h j a).2.2 i hi (by omega)]; grind
    · rw [if_neg a]
      by_cases b : j = c
      · subst b
        rw [h0 i (by omega) hi]; grind
      · rw [if_neg b]; grind
/-- Where all columns have a row, the kernel has 0 alone. -/
theorem el_full {R : Nat → Nat → Fin n} {m W : Nat} (h : Inv R m W) {v : Nat → Fin n} (hv : Ker R m W v) : ∀ k, k < W → v k = 0 := fun k hk => by
  have q := hv k (h k hk).1
  rw [sm_one (i := k) hk (fun j hj hjk => by rw [(h j hj).2.2 k (h k hk).1 (fun e => hjk e.symm)]; grind), (h k hk).2.1] at q
  rw [← q]; grind
def swp (c r i : Nat) : Nat := if i = c then r else if i = r then c else i
theorem swp_lt {c r i m : Nat} (hc : c < m) (hr : r < m) (hi : i < m) : swp c r i < m := by unfold swp; split <;> (try split) <;> omega
theorem swp_swp (c r i : Nat) : swp c r (swp c r i) = i := by unfold swp; split <;> (try split) <;> (try split) <;> (try split) <;> omega
theorem el_swap {R : Nat → Nat → Fin n} {m W c r : Nat} (hc : c < m) (hr : r < m) (v : Nat → Fin n) : Ker (fun i => R (swp c r i)) m W v ↔ Ker R m W v :=
  ⟨fun h i hi => by
    have q : sm (fun j => R (swp c r (swp c r i)) j * v j) W = 0 := h (swp c r i) (swp_lt hc hr hi)
    rw [swp_swp] at q; exact q, fun h i hi => h (swp c r i) (swp_lt hc hr hi)⟩
theorem el_swap_inv {R : Nat → Nat → Fin n} {m c r : Nat} (hc : c < m) (hcr : c ≤ r) (hr : r < m) (h : Inv R m c) : Inv (fun i => R (swp c r i)) m c := fun k hk => by
  refine ⟨(h k hk).1, ?_, fun i hi hik => (h k hk).2.2 (swp c r i) (swp_lt hc hr hi) ?_⟩
  · have e : swp c r k = k := by unfold swp; rw [if_neg (by omega), if_neg (by omega)]
    show R (swp c r k) k = 1
    rw [e]; exact (h k hk).2.1
  · unfold swp; split <;> (try split) <;> omega
/-- clearColumn. -/
def clr (R : Nat → Nat → Fin n) (c : Nat) (u : Fin n) : Nat → Nat → Fin n := fun i j => if i = c then R c j * u else (0 - R i c) * (R c j * u) + R i j
theorem clr_own (R : Nat → Nat → Fin n) (c : Nat) (u : Fin n) (v : Nat → Fin n) (W : Nat) : sm (fun j => clr R c u c j * v j) W = u * sm (fun j => R c j * v j) W := by
  rw [← sm_mul]
  exact sm_congr fun j _ => by unfold clr; rw [if_pos rfl]; grind
theorem clr_other (R : Nat → Nat → Fin n) (c : Nat) (u : Fin n) (v : Nat → Fin n) (W : Nat) {i : Nat} (h : ¬ i = c) : sm (fun j => clr R c u i j * v j) W = (0 - R i c) * u * sm (fun j => R c j * v j) W + sm (fun j => R i j * v j) W := by
  rw [← sm_mul, ← sm_add]
  exact sm_congr fun j _ => by unfold clr; rw [if_neg h]; grind
theorem el_clear {R : Nat → Nat → Fin n} {m W c : Nat} {u : Fin n} (hc : c < m) (hu : R c c * u = 1) (v : Nat → Fin n) : Ker (clr R c u) m W v ↔ Ker R m W v := by
  constructor
  · intro h i hi
    have q := h c hc
    rw [clr_own] at q
    have q0 : sm (fun j => R c j * v j) W = 0 := by
      have e : sm (fun j => R c j * v j) W = R c c * (u * sm (fun j => R c j * v j) W) := by
        have : R c c * (u * sm (fun j => R c j * v j) W) = (R c c * u) * sm (fun j => R c j * v j) W := by grind
        rw [this, hu]; grind
      rw [e, q]; grind
    by_cases e : i = c
    · rw [e]; exact q0
    · have p := h i hi
      rw [clr_other R c u v W e, q0] at p
      rw [← p]; grind
  · intro h i hi
    by_cases e : i = c
    · rw [e, clr_own, h c hc]; grind
    · rw [clr_other R c u v W e, h c hc, h i hi]; grind
theorem el_clear_inv {R : Nat → Nat → Fin n} {m c : Nat} {u : Fin n} (hc : c < m) (hu : R c c * u = 1) (h : Inv R m c) : Inv (clr R c u) m (c + 1) := fun k hk => by
  by_cases e : k = c
  · subst e
    refine ⟨hc, by unfold clr; rw [if_pos rfl]; exact hu, fun i _ hik => ?_⟩
    unfold clr
    rw [if_neg hik, hu]; grind
  · have hk' : k < c := by omega
    have z : R c k = 0 := (h k hk').2.2 c hc (by omega)
    refine ⟨(h k hk').1, ?_, fun i hi hik => ?_⟩
    · unfold clr
      rw [if_neg e, z, (h k hk').2.1]; grind
    · unfold clr
      rw [z]
      by_cases a : i = c
      · rw [if_pos a]; grind
      · rw [if_neg a, (h k hk').2.2 i hi hik]; grind
end Go.Proofs.YtoafcaieifjoiaaGreat.Q

/- Moments and locators: the kernel of the moments' rows. -/
namespace Go.Proofs.YtoafcaieifjoiaaGreat.Q
variable {n : Nat} [NeZero n]

def pwx (x : Fin n) : Nat → Fin n
  | 0 => 1
  | k + 1 => pwx x k * x
theorem pwx_s (x : Fin n) (k : Nat) : pwx x (k + 1) = pwx x k * x := rfl
theorem pwx_add (x : Fin n) (a : Nat) : ∀ b, pwx x (a + b) = pwx x a * pwx x b
  | 0 => by show pwx x a = pwx x a * 1; grind
  | b + 1 => by show pwx x (a + b) * x = pwx x a * (pwx x b * x); rw [pwx_add x a b]; grind
theorem Isp.pwx : ∀ k, Isp (fun x : Fin n => Q.pwx x k) (k + 1)
  | 0 => Isp.const 1
  | k + 1 => ((Isp.pwx k).lin 0).cong fun x => by show Q.pwx x k * (x - 0) = Q.pwx x k * x; grind
theorem sm_swap (f : Nat → Nat → Fin n) (a : Nat) : ∀ b, sm (fun i => sm (fun j => f i j) b) a = sm (fun j => sm (fun i => f i j) a) b
  | 0 => by
    show sm (fun _ => (0 : Fin n)) a = 0
    exact sm_zero fun _ _ => rfl
  | b + 1 => by
    show sm (fun i => sm (fun j => f i j) b + f i b) a = sm (fun j => sm (fun i => f i j) a) b + sm (fun i => f i b) a
    rw [sm_add, sm_swap f a b]
theorem sm_first (f : Nat → Fin n) : ∀ k, sm f (k + 1) = f 0 + sm (fun i => f (i + 1)) k
  | 0 => by show 0 + f 0 = f 0 + 0; grind
  | k + 1 => by
    show sm f (k + 1) + f (k + 1) = f 0 + (sm (fun i => f (i + 1)) k + f (k + 1))
    rw [sm_first f k]; grind
theorem pe_sm (x : Fin n) : ∀ (m : Nat) (c : Nat → Fin n), pe c x 0 m = sm (fun j => c j * pwx x j) m
  | 0, _ => rfl
  | m + 1, c => by
    rw [pe_first, pe_sm x m (fun i => c (i + 1)), sm_first]
    have e : sm (fun j => c (j + 1) * pwx x j) m * x = sm (fun i => c (i + 1) * pwx x (i + 1)) m := by
      have q := sm_mul x (fun j => c (j + 1) * pwx x j) m
      have : sm (fun j => c (j + 1) * pwx x j) m * x = x * sm (fun j => c (j + 1) * pwx x j) m := by grind
      rw [this, ← q]
      exact sm_congr fun j _ => by rw [pwx_s]; grind
    rw [e]
    show _ = c 0 * pwx x 0 + _
    have : pwx x 0 = 1 := rfl
    rw [this]; grind
/-- The moments of z at x. -/
def mom (x z : Nat → Fin n) (N p : Nat) : Fin n := sm (fun s => z s * pwx (x s) p) N
/-- What a row of moments says of a vector. -/
theorem mom_row (x z v : Nat → Fin n) (N W i : Nat) : sm (fun j => mom x z N (i + j) * v j) W = sm (fun s => z s * pe v (x s) 0 W * pwx (x s) i) N := by
  have e : ∀ j, j < W → mom x z N (i + j) * v j = sm (fun s => z s * pwx (x s) i * (v j * pwx (x s) j)) N := fun j _ => by
    unfold mom
    have : sm (fun s => z s * pwx (x s) (i + j)) N * v j = v j * sm (fun s => z s * pwx (x s) (i + j)) N := by grind
    rw [this, ← sm_mul]
    exact sm_congr fun s _ => by rw [pwx_add]; grind
  rw [sm_congr e, sm_swap]
  refine sm_congr fun s _ => ?_
  rw [sm_mul, ← pe_sm]; grind
theorem mom_all {x z v : Nat → Fin n} {N W K : Nat} (h : Ker (fun i j => mom x z N (i + j)) K W v) (p : Fin n → Fin n) (hp : Isp p K) : sm (fun s => z s * pe v (x s) 0 W * p (x s)) N = 0 := by
  obtain ⟨c, _, hc⟩ := hp
  have e : ∀ s, s < N → z s * pe v (x s) 0 W * p (x s) = sm (fun i => c i * (z s * pe v (x s) 0 W * pwx (x s) i)) K := fun s _ => by
    rw [hc, pe_sm (x s) K c, ← sm_mul]
    exact sm_congr fun i _ => by grind
  rw [sm_congr e, sm_swap]
  refine sm_zero fun i hi => ?_
  rw [sm_mul, ← mom_row, h i hi]; grind
/-- Where a polynomial of T coefficients goes through all shares but e, the product over the wrong places lies in the kernel. -/
theorem ker_has (hz : ∀ a b : Fin n, a * b = 0 → a = 0 ∨ b = 0) {N T e K : Nat} (hN : T + e + K = N + 1) (x y w : Nat → Fin n) (hx : ∀ i j, i < N + 1 → j < N + 1 → x i = x j → i = j) (hw : ∀ i, i < N + 1 → w i * pdx (fun j => x i - x j) i (N + 1) = 1)
    (f : Fin n → Fin n) (hf : Isp f T) (bad : Nat → Bool) (hb : ∀ i, i < N + 1 → bad i = false → y i = f (x i)) (v : Nat → Fin n) (hv : ∀ i, i < N + 1 → bad i = true → pe v (x i) 0 (e + 1) = 0) : Ker (fun i j => mom x (fun s => w s * y s) (N + 1) (i + j)) K (e + 1) v := fun i hi => by
  rw [mom_row]
  obtain ⟨r, hr⟩ : ∃ r, N = T + e + i + r := ⟨N - (T + e + i), by omega⟩
  have g1 : Isp (fun z => f z * pe v z 0 (e + 1) * pwx z i) N := by
    have q := ((hf.times (Isp.of v (e + 1))).times (Isp.pwx i)).more r
    rwa [← hr] at q
  have a2 := top0 hz x w hx hw g1
  rw [← a2]
  refine sm_congr fun s hs => ?_
  by_cases q : bad s = true
  · show w s * y s * pe v (x s) 0 (e + 1) * pwx (x s) i = w s * (f (x s) * pe v (x s) 0 (e + 1) * pwx (x s) i)
    rw [hv s hs q]; grind
  · show w s * y s * pe v (x s) 0 (e + 1) * pwx (x s) i = w s * (f (x s) * pe v (x s) 0 (e + 1) * pwx (x s) i)
    rw [hb s hs (by simpa using q)]; grind
end Go.Proofs.YtoafcaieifjoiaaGreat.Q

/- How many zeros a polynomial has; picking marked places. -/
namespace Go.Proofs.YtoafcaieifjoiaaGreat.Q
variable {n : Nat} [NeZero n]

/-- As many different marked places as are counted. -/
theorem pick (b : Nat → Bool) : ∀ N, ∃ g : Nat → Nat, (∀ i, i < cnt b N → g i < N ∧ b (g i) = true) ∧ ∀ i j, i < cnt b N → j < cnt b N → g i = g j → i = j
  | 0 => ⟨fun i => i, fun i hi => absurd hi (Nat.not_lt_zero _), fun i _ hi => absurd hi (Nat.not_lt_zero _)⟩
  | N + 1 => by
    obtain ⟨g, h1, h2⟩ := pick b N
    by_cases q : b N = true
    · have e : cnt b (N + 1) = cnt b N + 1 := by rw [cnt_s, if_pos q]
      rw [e]
      refine ⟨fun i => if i < cnt b N then g i else N, fun i hi => ?_, fun i j hi hj hij => ?_⟩
      · by_cases a : i < cnt b N
        · simp only [if_pos a]
          exact ⟨by have := (h1 i a).1; omega, (h1 i a).2⟩
        · simp only [if_neg a]
          exact ⟨by omega, q⟩
      · by_cases a : i < cnt b N
        · by_cases c : j < cnt b N
          · simp only [if_pos a, if_pos c] at hij
            exact h2 i j a c hij
          · simp only [if_pos a, if_neg c] at hij
            have := (h1 i a).1
            omega
        · by_cases c : j < cnt b N
          · simp only [if_neg a, if_pos c] at hij
            have := (h1 j c).1
            omega
          · omega
    · have e : cnt b (N + 1) = cnt b N := by rw [cnt_s, if_neg q]; rfl
      rw [e]
      exact ⟨g, fun i hi => ⟨by have := (h1 i hi).1; omega, (h1 i hi).2⟩, h2⟩
/-- A polynomial of m coefficients, not all of them 0, has fewer than m zeros among different places. -/
theorem zeros_lt (hz : ∀ a b : Fin n, a * b = 0 → a = 0 ∨ b = 0) {N m : Nat} (x v : Nat → Fin n) (hx : ∀ i j, i < N → j < N → x i = x j → i = j) (b : Nat → Bool) (hb : ∀ i, i < N → b i = true → pe v (x i) 0 m = 0) {k : Nat} (hk : k < m) (hv : ¬ v k = 0) : cnt b N < m := by
  refine Nat.lt_of_not_le fun hle => hv ?_
  obtain ⟨g, h1, h2⟩ := pick b N
  exact pe_roots hz m v (fun i => x (g i)) (fun i j hi hj e => h2 i j (by omega) (by omega) (hx _ _ (h1 i (by omega)).1 (h1 j (by omega)).1 e)) (fun i hi => hb _ (h1 i (by omega)).1 (h1 i (by omega)).2) k hk
theorem cnt_not (b : Nat → Bool) : ∀ N, cnt b N + cnt (fun j => !b j) N = N
  | 0 => rfl
  | N + 1 => by
    have := cnt_not b N
    rw [cnt_s, cnt_s]
    by_cases q : b N = true
    · rw [if_pos q, if_neg (by simp [q])]; omega
    · rw [if_neg q, if_pos (by simpa using q)]; omega
theorem cnt_or (b c : Nat → Bool) : ∀ N, cnt (fun j => b j || c j) N ≤ cnt b N + cnt c N
  | 0 => Nat.le_refl _
  | N + 1 => by
    have := cnt_or b c N
    rw [cnt_s, cnt_s, cnt_s]
    split <;> split <;> split <;> simp_all <;> omega
/-- Two polynomials of T coefficients that each miss at most e of T + 2 e places are one. -/
theorem dec_one (hz : ∀ a b : Fin n, a * b = 0 → a = 0 ∨ b = 0) {N T e : Nat} (hN : T + e + e ≤ N) (x y : Nat → Fin n) (hx : ∀ i j, i < N → j < N → x i = x j → i = j) (c d : Nat → Fin n) (b1 b2 : Nat → Bool) (h1 : ∀ i, i < N → b1 i = false → y i = pe c (x i) 0 T) (h2 : ∀ i, i < N → b2 i = false → y i = pe d (x i) 0 T)
    (k1 : cnt b1 N ≤ e) (k2 : cnt b2 N ≤ e) : ∀ i, i < T → c i = d i := by
  have q1 := cnt_not (fun j => b1 j || b2 j) N
  have q2 := cnt_or b1 b2 N
  obtain ⟨g, g1, g2⟩ := pick (fun j => !(b1 j || b2 j)) N
  refine pe_unique hz T c d (fun i => x (g i)) (fun i j hi hj e => g2 i j (by omega) (by omega) (hx _ _ (g1 i (by omega)).1 (g1 j (by omega)).1 e)) (fun i hi => ?_)
  have hb := (g1 i (by omega)).2
  simp at hb
  rw [← h1 _ (g1 i (by omega)).1 hb.1, ← h2 _ (g1 i (by omega)).1 hb.2]
end Go.Proofs.YtoafcaieifjoiaaGreat.Q

/- Gauss, with a right side: what the rows say stays the same; a solution, or none. -/
namespace Go.Proofs.YtoafcaieifjoiaaGreat.Q
variable {n : Nat} [NeZero n]

/-- u solves M rows of width W (the right side is column W). -/
def Sol (R : Nat → Nat → Fin n) (M W : Nat) (u : Nat → Fin n) : Prop := ∀ i, i < M → sm (fun k => R i k * u k) W = R i W
/-- c columns are through; r rows have a column; A k is the row of column k, or -1. -/
structure GI (R : Nat → Nat → Fin n) (M W c r : Nat) (A : Nat → Int) : Prop where
  le : r ≤ M
  low : ∀ k, k < c → ∀ i, r ≤ i → i < M → R i k = 0
  piv : ∀ k, k < c → A k = -1 ∨ ∃ p : Nat, A k = (p : Int) ∧ p < r ∧ R p k = 1 ∧ ∀ i, i < M → ¬ i = p → R i k = 0
  inj : ∀ k l, k < c → l < c → A k = A l → ¬ A k = -1 → k = l
  sur : ∀ p : Nat, p < r → ∃ k, k < c ∧ A k = (p : Int)
theorem GI.zero (R : Nat → Nat → Fin n) (M W : Nat) (A : Nat → Int) : GI R M W 0 0 A := ⟨Nat.zero_le _, fun k hk => absurd hk (Nat.not_lt_zero _), fun k hk => absurd hk (Nat.not_lt_zero _), fun k _ hk => absurd hk (Nat.not_lt_zero _), fun p hp => absurd hp (Nat.not_lt_zero _)⟩
/-- A column that gets no row. -/
theorem GI.skip {R : Nat → Nat → Fin n} {M W c r : Nat} {A : Nat → Int} (h : GI R M W c r A) (h0 : ∀ i, r ≤ i → i < M → R i c = 0) : GI R M W (c + 1) r (fun k => if k = c then -1 else A k) := by
  refine ⟨h.le, fun k hk i h1 h2 => ?_, fun k hk => ?_, fun k l hk hl e hn => ?_, fun p hp => ?_⟩
  · by_cases e : k = c
    · rw [e]; exact h0 i h1 h2
    · exact h.low k (by omega) i h1 h2
  · by_cases e : k = c
    · simp only [if_pos e]; exact Or.inl trivial
    · simp only [if_neg e]; exact h.piv k (by omega)
  · by_cases a : k = c
    · simp only [if_pos a] at hn; exact absurd trivial hn
    · by_cases b : l = c
      · simp only [if_neg a, if_pos b] at e hn; exact absurd e hn
      · simp only [if_neg a, if_neg b] at e hn; exact h.inj k l (by omega) (by omega) e hn
  · obtain ⟨k, hk, e⟩ := h.sur p hp
    exact ⟨k, by omega, by simp only [if_neg (show ¬ k = c by omega)]; exact e⟩
/-- The row r is scaled, and taken from all others, so that column c has it. -/
def gst (R : Nat → Nat → Fin n) (r c : Nat) (u : Fin n) : Nat → Nat → Fin n := fun i k => if i = r then R r k * u else R i k - R i c * (R r k * u)
theorem gst_own (R : Nat → Nat → Fin n) (r c : Nat) (u : Fin n) (v : Nat → Fin n) (W : Nat) : sm (fun k => gst R r c u r k * v k) W = u * sm (fun k => R r k * v k) W := by
  rw [← sm_mul]
  exact sm_congr fun k _ => by unfold gst; rw [if_pos rfl]; grind
theorem gst_other (R : Nat → Nat → Fin n) (r c : Nat) (u : Fin n) (v : Nat → Fin n) (W : Nat) {i : Nat} (h : ¬ i = r) : sm (fun k => gst R r c u i k * v k) W = (0 - R i c) * u * sm (fun k => R r k * v k) W + sm (fun k => R i k * v k) W := by
  rw [← sm_mul, ← sm_add]
  exact sm_congr fun k _ => by unfold gst; rw [if_neg h]; grind
theorem gst_sol {R : Nat → Nat → Fin n} {M W r c : Nat} {u : Fin n} (hr : r < M) (hu : R r c * u = 1) (v : Nat → Fin n) : Sol (gst R r c u) M W v ↔ Sol R M W v := by
  have own : sm (fun k => gst R r c u r k * v k) W = gst R r c u r W ↔ sm (fun k => R r k * v k) W = R r W := by
    rw [gst_own]
    have e : gst R r c u r W = u * R r W := by unfold gst; rw [if_pos rfl]; grind
    rw [e]
    constructor
    · intro h
      have h2 : R r c * (u * sm (fun k => R r k * v k) W) = R r c * (u * R r W) := by rw [h]
      have e1 : ∀ z, R r c * (u * z) = z := fun z => by
        have : R r c * (u * z) = (R r c * u) * z := by grind
        rw [this, hu]; grind
      rw [e1, e1] at h2
      exact h2
    · intro h; rw [h]
  constructor
  · intro h i hi
    have q0 := own.1 (h r hr)
    by_cases e : i = r
    · rw [e]; exact q0
    · have p := h i hi
      rw [gst_other R r c u v W e, q0] at p
      have e2 : gst R r c u i W = R i W - R i c * (R r W * u) := by unfold gst; rw [if_neg e]
      rw [e2] at p
      grind
  · intro h i hi
    by_cases e : i = r
    · rw [e]; exact own.2 (h r hr)
    · rw [gst_other R r c u v W e, h r hr, h i hi]
      have e2 : gst R r c u i W = R i W - R i c * (R r W * u) := by unfold gst; rw [if_neg e]
      rw [e2]; grind
theorem swp_sol {R : Nat → Nat → Fin n} {M W r p : Nat} (hr : r < M) (hp : p < M) (v : Nat → Fin n) : Sol (fun i => R (swp r p i)) M W v ↔ Sol R M W v :=
  ⟨fun h i hi => by
    have q := h (swp r p i) (swp_lt hr hp hi)
    have q' : sm (fun j => R (swp r p (swp r p i)) j * v j) W = R (swp r p (swp r p i)) W := q
    rw [swp_swp] at q'; exact q', fun h i hi => h (swp r p i) (swp_lt hr hp hi)⟩
/-- A column that gets its row. -/
theorem GI.step {R : Nat → Nat → Fin n} {M W c r p : Nat} {A : Nat → Int} {u : Fin n} (h : GI R M W c r A) (hrp : r ≤ p) (hp : p < M) (hu : R p c * u = 1) : GI (gst (fun i => R (swp r p i)) r c u) M W (c + 1) (r + 1) (fun k => if k = c then (r : Int) else A k) := by
  have hr : r < M := by omega
  have hs : ∀ i, i < r → swp r p i = i := fun i hi => by unfold swp; rw [if_neg (by omega), if_neg (by omega)]
  have hg : ∀ i, r ≤ i → i < M → r ≤ swp r p i ∧ swp r p i < M := fun i h1 h2 => ⟨by unfold swp; split <;> (try split) <;> omega, swp_lt hr hp h2⟩
  have hsr : swp r p r = p := if_pos rfl
  have hz : ∀ k, k < c → R (swp r p r) k = 0 := fun k hk => h.low k hk _ (hg r (Nat.le_refl _) hr).1 (hg r (Nat.le_refl _) hr).2
  have keep : ∀ i k, k < c → ¬ i = r → gst (fun i => R (swp r p i)) r c u i k = R (swp r p i) k := fun i k hk hi => by
    unfold gst
    simp only [if_neg hi]
    rw [hz k hk]; grind
  have own : ∀ k, k < c → gst (fun i => R (swp r p i)) r c u r k = 0 := fun k hk => by
    unfold gst
    simp only [if_pos]
    rw [hz k hk]; grind
  have colr : gst (fun i => R (swp r p i)) r c u r c = 1 := by
    unfold gst
    simp only [if_pos]
    rw [hsr, hu]
  have col : ∀ i, ¬ i = r → gst (fun i => R (swp r p i)) r c u i c = 0 := fun i hi => by
    unfold gst
    simp only [if_neg hi]
    rw [hsr, hu]; grind
  refine ⟨by omega, fun k hk i h1 h2 => ?_, fun k hk => ?_, fun k l hk hl e hn => ?_, fun q hq => ?_⟩
  · by_cases e : k = c
    · rw [e]; exact col i (by omega)
    · rw [keep i k (by omega) (by omega)]
      exact h.low k (by omega) _ (hg i (by omega) h2).1 (hg i (by omega) h2).2
  · by_cases e : k = c
    · subst e
      simp only [if_pos]
      exact Or.inr ⟨r, rfl, by omega, colr, fun i _ hi => col i hi⟩
    · simp only [if_neg e]
      rcases h.piv k (by omega) with q | ⟨q, q1, q2, q3, q4⟩
      · exact Or.inl q
      · refine Or.inr ⟨q, q1, by omega, ?_, fun i hi hiq => ?_⟩
        · rw [keep q k (by omega) (by omega), hs q q2]; exact q3
        · by_cases ei : i = r
          · subst ei; exact own k (by omega)
          · rw [keep i k (by omega) ei]
            by_cases a : i < r
            · rw [hs i a]; exact q4 i hi hiq
            · exact h.low k (by omega) _ (hg i (by omega) hi).1 (hg i (by omega) hi).2
  · by_cases a : k = c
    · by_cases b : l = c
      · omega
      · simp only [if_pos a, if_neg b] at e
        rcases h.piv l (by omega) with q | ⟨q, q1, q2, _⟩
        · omega
        · omega
    · by_cases b : l = c
      · simp only [if_neg a, if_pos b] at e
        rcases h.piv k (by omega) with q | ⟨q, q1, q2, _⟩
        · omega
        · omega
      · simp only [if_neg a, if_neg b] at e hn; exact h.inj k l (by omega) (by omega) e hn
  · by_cases a : q = r
    · exact ⟨c, by omega, by simp only [if_pos]; rw [a]⟩
    · obtain ⟨k, hk, e⟩ := h.sur q (by omega)
      exact ⟨k, by omega, by simp only [if_neg (show ¬ k = c by omega)]; exact e⟩
/-- What is free is 0. -/
theorem GI.out {R : Nat → Nat → Fin n} {M W r : Nat} {A : Nat → Int} (h : GI R M W W r A) (h0 : ∀ i, r ≤ i → i < M → R i W = 0) : Sol R M W (fun k => if A k < 0 then 0 else R (A k).toNat W) := fun i hi => by
  by_cases q : i < r
  · obtain ⟨k, hk, e⟩ := h.sur i q
    rw [sm_one (i := k) hk (fun l hl hlk => ?_)]
    · show R i k * (if A k < 0 then 0 else R (A k).toNat W) = R i W
      rw [if_neg (by omega), e, Int.toNat_natCast]
      rcases h.piv k hk with a | ⟨p, p1, p2, p3, p4⟩
      · omega
      · have : p = i := by omega
        subst this
        rw [p3]; grind
    · show R i l * (if A l < 0 then 0 else R (A l).toNat W) = 0
      rcases h.piv l hl with a | ⟨p, p1, p2, p3, p4⟩
      · rw [if_pos (by omega)]; grind
      · have hne : ¬ i = p := fun x => hlk (h.inj l k hl hk (by omega) (by omega))
        rw [p4 i hi hne]; grind
  · rw [h0 i (by omega) hi]
    refine sm_zero fun k hk => ?_
    rw [h.low k hk i (by omega) hi]; grind
theorem GI.none {R : Nat → Nat → Fin n} {M W r : Nat} {A : Nat → Int} (h : GI R M W W r A) {i : Nat} (h1 : r ≤ i) (h2 : i < M) (hn : ¬ R i W = 0) (v : Nat → Fin n) : ¬ Sol R M W v := fun hs => hn (by
  rw [← hs i h2]
  refine sm_zero fun k hk => ?_
  rw [h.low k hk i h1 h2]; grind)
end Go.Proofs.YtoafcaieifjoiaaGreat.Q
