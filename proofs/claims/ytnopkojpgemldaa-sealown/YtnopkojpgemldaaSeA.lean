/- ChaCha20 as numbers. Nothing of the program. -/
import Derived.Test.YtnopkojpgemldaaMgB
import Derived.Test.YtnopkojpgemldaaMgH
set_option linter.unusedVariables false
set_option linter.unusedSimpArgs false
set_option linter.unnecessarySimpa false
namespace Go.Proofs.Ytnopkojpgemldaa
open Go.RowKit

/-- A number of 32 bits. -/
def V (n : Nat) : Prop := n < 4294967296
/-- n of them as cells. -/
def tC (n : Nat) (f : Nat → Nat) : Array Value := ((List.range n).map fun i => Value.int .u32 (f i)).toArray
theorem tC_size (n : Nat) (f : Nat → Nat) : (tC n f).size = n := by simp [tC]
theorem tC_get (n : Nat) (f : Nat → Nat) (i : Nat) (h : i < n) : (tC n f)[i]? = some (.int .u32 (f i)) := by simp [tC, h]
theorem tC_one (n : Nat) (f : Nat → Nat) : (tC n f).all (·.oneCell') = true := by simp [tC, Value.oneCell']
theorem tC_set (n : Nat) (f : Nat → Nat) (i v : Nat) : (tC n f).setIfInBounds i (.int .u32 v) = tC n (up f i v) := by
  apply Array.ext_getElem?
  intro j
  by_cases hj : j < n
  · rw [Array.getElem?_setIfInBounds, tC_get n _ j hj, tC_get n _ j hj, tC_size]
    unfold up
    by_cases h : i = j
    · subst h; simp [hj]
    · have h2 : ¬ j = i := fun e => h e.symm
      simp [h, h2]
  · rw [Array.getElem?_eq_none (by rw [Array.size_setIfInBounds, tC_size]; omega), Array.getElem?_eq_none (by rw [tC_size]; omega)]
theorem tC_eq {n : Nat} {f g : Nat → Nat} (h : ∀ i, i < n → f i = g i) : tC n f = tC n g := by
  unfold tC
  congr 1
  apply List.map_congr_left
  intro i hi
  rw [h i (by simpa using hi)]
/-- Turned left. -/
def rl (n x : Nat) : Nat := x <<< n % 4294967296 ||| x >>> (32 - n)
theorem xorV {a b : Nat} (ha : V a) (hb : V b) : V (a ^^^ b) := Nat.xor_lt_two_pow (n := 32) ha hb
theorem rl_lt (n : Nat) {x : Nat} (hx : V x) : V (rl n x) :=
  Nat.or_lt_two_pow (n := 32) (Nat.mod_lt _ (by decide)) (by rw [Nat.shiftRight_eq_div_pow]; exact Nat.lt_of_le_of_lt (Nat.div_le_self _ _) hx)
theorem modV (x : Nat) : V (x % 4294967296) := Nat.mod_lt _ (by decide)
def q1 (a b c d : Nat) : Nat := (a + b) % 4294967296
def q2 (a b c d : Nat) : Nat := rl 16 (d ^^^ q1 a b c d)
def q3 (a b c d : Nat) : Nat := (c + q2 a b c d) % 4294967296
def q4 (a b c d : Nat) : Nat := rl 12 (b ^^^ q3 a b c d)
def q5 (a b c d : Nat) : Nat := (q1 a b c d + q4 a b c d) % 4294967296
def q6 (a b c d : Nat) : Nat := rl 8 (q2 a b c d ^^^ q5 a b c d)
def q7 (a b c d : Nat) : Nat := (q3 a b c d + q6 a b c d) % 4294967296
def q8 (a b c d : Nat) : Nat := rl 7 (q4 a b c d ^^^ q7 a b c d)
theorem q1_lt (a b c d : Nat) : V (q1 a b c d) := modV _
theorem q2_lt {a b c d : Nat} (hd : V d) : V (q2 a b c d) := rl_lt _ (xorV hd (modV _))
theorem q3_lt (a b c d : Nat) : V (q3 a b c d) := modV _
theorem q4_lt {a b c d : Nat} (hb : V b) : V (q4 a b c d) := rl_lt _ (xorV hb (modV _))
theorem q5_lt (a b c d : Nat) : V (q5 a b c d) := modV _
theorem q6_lt {a b c d : Nat} (hd : V d) : V (q6 a b c d) := rl_lt _ (xorV (q2_lt hd) (modV _))
theorem q7_lt (a b c d : Nat) : V (q7 a b c d) := modV _
theorem q8_lt {a b c d : Nat} (hb : V b) : V (q8 a b c d) := rl_lt _ (xorV (q4_lt hb) (modV _))
/-- A quarter round of four places. -/
def qat (s : Nat → Nat) (i j k l : Nat) : Nat → Nat :=
  up (up (up (up s i (q5 (s i) (s j) (s k) (s l))) j (q8 (s i) (s j) (s k) (s l))) k (q7 (s i) (s j) (s k) (s l))) l (q6 (s i) (s j) (s k) (s l))
/-- Sixteen numbers of 32 bits. -/
def V16 (s : Nat → Nat) : Prop := ∀ i, i < 16 → V (s i)
theorem up_V {s : Nat → Nat} (h : V16 s) (i : Nat) {v : Nat} (hv : V v) : V16 (up s i v) := fun j hj => by
  unfold up; split
  · exact hv
  · exact h j hj
theorem qat_V {s : Nat → Nat} (h : V16 s) (i j k l : Nat) (hj : j < 16) (hl : l < 16) : V16 (qat s i j k l) :=
  up_V (up_V (up_V (up_V h i (q5_lt _ _ _ _)) j (q8_lt (h j hj))) k (q7_lt _ _ _ _)) l (q6_lt (h l hl))
def cols (s : Nat → Nat) : Nat → (Nat → Nat)
  | 0 => s
  | n + 1 => qat (cols s n) n (4 + n) (8 + n) (12 + n)
def dias (s : Nat → Nat) : Nat → (Nat → Nat)
  | 0 => s
  | n + 1 => qat (dias s n) n (4 + (n + 1) % 4) (8 + (n + 2) % 4) (12 + (n + 3) % 4)
theorem cols_V {s : Nat → Nat} (h : V16 s) : ∀ n, n ≤ 4 → V16 (cols s n)
  | 0, _ => h
  | n + 1, hn => qat_V (cols_V h n (by omega)) _ _ _ _ (by omega) (by omega)
theorem dias_V {s : Nat → Nat} (h : V16 s) : ∀ n, n ≤ 4 → V16 (dias s n)
  | 0, _ => h
  | n + 1, hn => qat_V (dias_V h n (by omega)) _ _ _ _ (by omega) (by omega)
def dbl (s : Nat → Nat) : Nat → Nat := dias (cols s 4) 4
theorem dbl_V {s : Nat → Nat} (h : V16 s) : V16 (dbl s) := dias_V (cols_V h 4 (by omega)) 4 (by omega)
def stirs (s : Nat → Nat) : Nat → (Nat → Nat)
  | 0 => s
  | n + 1 => dbl (stirs s n)
theorem stirs_V {s : Nat → Nat} (h : V16 s) : ∀ n, V16 (stirs s n)
  | 0 => h
  | n + 1 => dbl_V (stirs_V h n)
/-- A block's numbers, its bytes. -/
def bkW (s : Nat → Nat) (i : Nat) : Nat := (stirs s 10 i + s i) % 4294967296
def bkB (s : Nat → Nat) (j : Nat) : Nat := bkW s (j / 4) / 256 ^ (j % 4) % 256
theorem bkB_lt (s : Nat → Nat) (j : Nat) : bkB s j < 256 := Nat.mod_lt _ (by decide)
/-- Four bytes, the lowest first. -/
def le4 (b : Nat → Nat) : Nat := b 0 + b 1 * 256 + b 2 * 65536 + b 3 * 16777216
theorem le4_lt {b : Nat → Nat} (h : ∀ i, i < 4 → b i < 256) : V (le4 b) := by
  have h0 := h 0 (by omega); have h1 := h 1 (by omega); have h2 := h 2 (by omega); have h3 := h 3 (by omega)
  unfold le4 V; omega
/-- The state at the beginning. -/
def st0 (k : Nat → Nat) (ct : Nat) (n : Nat → Nat) : Nat → Nat := fun i =>
  if i < 4 then (if i = 0 then 1634760805 else if i = 1 then 857760878 else if i = 2 then 2036477234 else 1797285236)
  else if i < 12 then le4 (fun j => k (4 * (i - 4) + j)) else if i = 12 then ct else le4 (fun j => n (4 * (i - 13) + j))
theorem st0_V {k n : Nat → Nat} {ct : Nat} (hk : ∀ i, i < 32 → k i < 256) (hn : ∀ i, i < 12 → n i < 256) (hc : V ct) : V16 (st0 k ct n) := fun i hi => by
  unfold st0
  split
  · split
    · unfold V; omega
    · split
      · unfold V; omega
      · split <;> (unfold V; omega)
  · split
    · exact le4_lt fun j hj => hk _ (by omega)
    · split
      · exact hc
      · exact le4_lt fun j hj => hn _ (by omega)
theorem st0_up (k : Nat → Nat) (c d : Nat) (n : Nat → Nat) : up (st0 k c n) 12 d = st0 k d n := by
  funext i
  unfold up st0
  by_cases h : i = 12
  · subst h; simp
  · simp [h]
/-- The bytes from a state on. -/
def ksS (s : Nat → Nat) (i : Nat) : Nat := bkB (up s 12 ((s 12 + i / 64) % 4294967296)) (i % 64)
theorem ksS_lt (s : Nat → Nat) (i : Nat) : ksS s i < 256 := bkB_lt _ _
def ks (k : Nat → Nat) (ct : Nat) (n : Nat → Nat) : Nat → Nat := ksS (st0 k ct n)
theorem ks_lt (k : Nat → Nat) (ct : Nat) (n : Nat → Nat) (i : Nat) : ks k ct n i < 256 := ksS_lt _ _
/-- Masked. -/
def xo (f g : Nat → Nat) : Nat → Nat := fun i => f i ^^^ g i
theorem xo_lt {n : Nat} {f g : Nat → Nat} (hf : ∀ i, i < n → f i < 256) (hg : ∀ i, g i < 256) : ∀ i, i < n → xo f g i < 256 := fun i hi => Nat.xor_lt_two_pow (n := 8) (hf i hi) (hg i)
theorem xo_xo (f g : Nat → Nat) : xo (xo f g) g = f := by funext i; unfold xo; rw [Nat.xor_assoc, Nat.xor_self, Nat.xor_zero]
/-- v is a slice of n bytes f; where there are none it may point anywhere. -/
def Sz (w : World) (v : Value) (n : Nat) (f : Nat → Nat) : Prop := ∃ p c, v = .slice p n c ∧ n ≤ c ∧ c ≤ 9223372036854775807 ∧ (0 < n → ∃ g o, p = some ⟨g, o, none⟩ ∧ Bs w g o n f)
theorem Sz.of {w : World} {v : Value} {n : Nat} {f : Nat → Nat} (h : Sl w v n f) : Sz w v n f := by
  rcases h with ⟨rfl, rfl⟩ | ⟨g, o, c, rfl, h1, h2, h3⟩
  · exact ⟨none, 0, rfl, by omega, by omega, fun h => by omega⟩
  · exact ⟨_, c, rfl, h1, h2, fun _ => ⟨g, o, rfl, h3⟩⟩
theorem Sz.bd {w : World} {v : Value} {n : Nat} {f : Nat → Nat} (h : Sz w v n f) : ∀ i, i < n → f i < 256 := by
  obtain ⟨p, c, rfl, h1, h2, h3⟩ := h
  intro i hi
  obtain ⟨g, o, _, hb⟩ := h3 (by omega)
  exact hb.bd i hi
/-- Where there are bytes, they lie in none of these blocks. -/
def Oz (v : Value) (l : List Nat) : Prop := ∀ g o n c, 0 < n → v = .slice (some ⟨g, o, none⟩) n c → ¬ g ∈ l
theorem Sz.chg {w w' : World} {v : Value} {n : Nat} {f : Nat → Nat} {ch : List Nat} (h : Sz w v n f) (hc : Chg w w' ch) (ho : Oz v ch) : Sz w' v n f := by
  obtain ⟨p, c, rfl, h1, h2, h3⟩ := h
  refine ⟨p, c, rfl, h1, h2, fun h0 => ?_⟩
  obtain ⟨g, o, rfl, hb⟩ := h3 h0
  exact ⟨g, o, rfl, hb.chg hc (ho g o n c h0 rfl)⟩
theorem Oz.nil (v : Value) : Oz v [] := fun g o n c _ _ h => by simp at h
theorem Sz.new {w : World} {v : Value} {n : Nat} {f : Nat → Nat} (h : Sz w v n f) (l : List Nat) (hl : ∀ i ∈ l, w.heap.size ≤ i) : Oz v l := by
  obtain ⟨p, c, rfl, h1, h2, h3⟩ := h
  intro g o m c' h0 he hg
  simp only [Value.slice.injEq] at he
  obtain ⟨rfl, rfl, rfl⟩ := he
  obtain ⟨g', o', e, hb⟩ := h3 h0
  simp only [Option.some.injEq, Addr.mk.injEq] at e
  have q1 := hb.lt
  have q2 := hl g hg
  omega
theorem Sz.kept {w w' : World} {v : Value} {n : Nat} {f : Nat → Nat} (h : Sz w v n f) (hc : Chg w w' []) : Sz w' v n f := h.chg hc (Oz.nil _)
theorem Sz.cg {w : World} {v : Value} {n : Nat} {f g : Nat → Nat} (h : Sz w v n f) (e : ∀ i, i < n → f i = g i) : Sz w v n g := by
  obtain ⟨p, c, rfl, h1, h2, h3⟩ := h
  refine ⟨p, c, rfl, h1, h2, fun h0 => ?_⟩
  obtain ⟨g', o, rfl, hb⟩ := h3 h0
  exact ⟨g', o, rfl, hb.lt, fun i hi => by rw [← e i hi]; exact hb.bd i hi, fun i hi => by rw [← e i hi]; exact hb.cell i hi⟩
end Go.Proofs.Ytnopkojpgemldaa
