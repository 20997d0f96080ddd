/- SHA-512 as numbers: words, blocks, streams of bytes. Nothing of the program. -/
import Derived.Test.YtjppbngimacgnaaGreatDoorG
set_option linter.unusedVariables false
set_option linter.unusedSimpArgs false
set_option linter.unnecessarySimpa false
namespace Go.Proofs.YtjppbngimacgnaaGreatDoor
open Go.RowKit

/-- A word. -/
def U (n : Nat) : Prop := n < 18446744073709551616
/-- n words as cells. -/
def vC (n : Nat) (f : Nat → Nat) : Array Value := ((List.range n).map fun i => Value.int .u64 (f i)).toArray
/-- n bytes as cells. -/
def yC (n : Nat) (f : Nat → Nat) : Array Value := ((List.range n).map fun i => Value.int .u8 (f i)).toArray
theorem vC_size (n : Nat) (f : Nat → Nat) : (vC n f).size = n := by simp [vC]
theorem yC_size (n : Nat) (f : Nat → Nat) : (yC n f).size = n := by simp [yC]
theorem vC_get (n : Nat) (f : Nat → Nat) (i : Nat) (h : i < n) : (vC n f)[i]? = some (.int .u64 (f i)) := by simp [vC, h]
theorem yC_get (n : Nat) (f : Nat → Nat) (i : Nat) (h : i < n) : (yC n f)[i]? = some (.int .u8 (f i)) := by simp [yC, h]
/-- One place written. -/
def up (f : Nat → Nat) (i v : Nat) : Nat → Nat := fun j => if j = i then v else f j
theorem vC_set (n : Nat) (f : Nat → Nat) (i v : Nat) : (vC n f).setIfInBounds i (.int .u64 v) = vC n (up f i v) := by
  apply Array.ext_getElem?
  intro j
  by_cases hj : j < n
  · rw [Array.getElem?_setIfInBounds, vC_get n _ j hj, vC_get n _ j hj, vC_size]
    unfold up
    by_cases h : i = j
    · subst h; simp [hj]
    · have h2 : ¬ j = i := fun e => h e.symm
      simp [h, h2]
  · rw [Array.getElem?_eq_none (by rw [Array.size_setIfInBounds, vC_size]; omega), Array.getElem?_eq_none (by rw [vC_size]; omega)]
theorem yC_set (n : Nat) (f : Nat → Nat) (i v : Nat) : (yC n f).setIfInBounds i (.int .u8 v) = yC n (up f i v) := by
  apply Array.ext_getElem?
  intro j
  by_cases hj : j < n
  · rw [Array.getElem?_setIfInBounds, yC_get n _ j hj, yC_get n _ j hj, yC_size]
    unfold up
    by_cases h : i = j
    · subst h; simp [hj]
    · have h2 : ¬ j = i := fun e => h e.symm
      simp [h, h2]
  · rw [Array.getElem?_eq_none (by rw [Array.size_setIfInBounds, yC_size]; omega), Array.getElem?_eq_none (by rw [yC_size]; omega)]
theorem vC_eq {n : Nat} {f g : Nat → Nat} (h : ∀ i, i < n → f i = g i) : vC n f = vC n g := by
  unfold vC
  congr 1
  apply List.map_congr_left
  intro i hi
  rw [h i (by simpa using hi)]
theorem yC_eq {n : Nat} {f g : Nat → Nat} (h : ∀ i, i < n → f i = g i) : yC n f = yC n g := by
  unfold yC
  congr 1
  apply List.map_congr_left
  intro i hi
  rw [h i (by simpa using hi)]

/-- Turned right. -/
def rr (n x : Nat) : Nat := x >>> n ||| x <<< (64 - n) % 18446744073709551616
def sg0 (x : Nat) : Nat := rr 1 x ^^^ rr 8 x ^^^ x >>> 7
def sg1 (x : Nat) : Nat := rr 19 x ^^^ rr 61 x ^^^ x >>> 6
def tr (i j k x : Nat) : Nat := rr i x ^^^ rr j x ^^^ rr k x
def chc (e f g : Nat) : Nat := (e &&& f) ^^^ ((18446744073709551615 - e) &&& g)
def maj (a b c : Nat) : Nat := (a &&& b) ^^^ (a &&& c) ^^^ (b &&& c)
theorem or_lt {a b : Nat} (ha : U a) (hb : U b) : U (a ||| b) := Nat.or_lt_two_pow (n := 64) ha hb
theorem xor_lt {a b : Nat} (ha : U a) (hb : U b) : U (a ^^^ b) := Nat.xor_lt_two_pow (n := 64) ha hb
theorem and_lt {a b : Nat} (ha : U a) : U (a &&& b) := Nat.lt_of_le_of_lt Nat.and_le_left ha
theorem shr_lt {a : Nat} (n : Nat) (ha : U a) : U (a >>> n) := by
  rw [Nat.shiftRight_eq_div_pow]; exact Nat.lt_of_le_of_lt (Nat.div_le_self _ _) ha
theorem rr_lt (n : Nat) {x : Nat} (hx : U x) : U (rr n x) := or_lt (shr_lt n hx) (Nat.mod_lt _ (by decide))
theorem sg0_lt {x : Nat} (hx : U x) : U (sg0 x) := xor_lt (xor_lt (rr_lt 1 hx) (rr_lt 8 hx)) (shr_lt 7 hx)
theorem sg1_lt {x : Nat} (hx : U x) : U (sg1 x) := xor_lt (xor_lt (rr_lt 19 hx) (rr_lt 61 hx)) (shr_lt 6 hx)
theorem tr_lt (i j k : Nat) {x : Nat} (hx : U x) : U (tr i j k x) := xor_lt (xor_lt (rr_lt i hx) (rr_lt j hx)) (rr_lt k hx)
theorem chc_lt {e f g : Nat} (he : U e) : U (chc e f g) := xor_lt (and_lt he) (and_lt (by unfold U; omega))
theorem maj_lt {a b c : Nat} (ha : U a) (hb : U b) : U (maj a b c) := xor_lt (xor_lt (and_lt ha) (and_lt ha)) (and_lt hb)

/-- Eight bytes, the highest first. -/
def wd (b : Nat → Nat) : Nat := b 7 + b 6 * 256 + b 5 * 65536 + b 4 * 16777216 + b 3 * 4294967296 + b 2 * 1099511627776 + b 1 * 281474976710656 + b 0 * 72057594037927936
theorem wd_lt {b : Nat → Nat} (h : ∀ i, i < 8 → b i < 256) : U (wd b) := by
  have h0 := h 0 (by omega); have h1 := h 1 (by omega); have h2 := h 2 (by omega); have h3 := h 3 (by omega)
  have h4 := h 4 (by omega); have h5 := h 5 (by omega); have h6 := h 6 (by omega); have h7 := h 7 (by omega)
  unfold wd U; omega
/-- The eighty words of a block. -/
def sw (b : Nat → Nat) (i : Nat) : Nat :=
  if h : i < 16 then wd fun j => b (8 * i + j)
  else (sw b (i - 16) + sg0 (sw b (i - 15)) + sw b (i - 7) + sg1 (sw b (i - 2))) % 18446744073709551616
termination_by i
theorem sw_lo (b : Nat → Nat) (i : Nat) (h : i < 16) : sw b i = wd fun j => b (8 * i + j) := by rw [sw, dif_pos h]
theorem sw_hi (b : Nat → Nat) (i : Nat) (h : ¬ i < 16) : sw b i = (sw b (i - 16) + sg0 (sw b (i - 15)) + sw b (i - 7) + sg1 (sw b (i - 2))) % 18446744073709551616 := by rw [sw, dif_neg h]
theorem sw_lt {b : Nat → Nat} (hb : ∀ i, i < 128 → b i < 256) (i : Nat) : U (sw b i) := by
  by_cases h : i < 16
  · rw [sw_lo b i h]; exact wd_lt fun j hj => hb _ (by omega)
  · rw [sw_hi b i h]; exact Nat.mod_lt _ (by decide)

/-- Eight words. -/
structure R8 where
  a : Nat
  b : Nat
  c : Nat
  d : Nat
  e : Nat
  f : Nat
  g : Nat
  h : Nat
def R8.U (s : R8) : Prop := (Go.Proofs.YtjppbngimacgnaaGreatDoor.U s.a ∧ Go.Proofs.YtjppbngimacgnaaGreatDoor.U s.b ∧ Go.Proofs.YtjppbngimacgnaaGreatDoor.U s.c ∧ Go.Proofs.YtjppbngimacgnaaGreatDoor.U s.d) ∧ Go.Proofs.YtjppbngimacgnaaGreatDoor.U s.e ∧ Go.Proofs.YtjppbngimacgnaaGreatDoor.U s.f ∧ Go.Proofs.YtjppbngimacgnaaGreatDoor.U s.g ∧ Go.Proofs.YtjppbngimacgnaaGreatDoor.U s.h
def t1 (s : R8) (k w : Nat) : Nat := (s.h + tr 14 18 41 s.e + chc s.e s.f s.g + k + w) % 18446744073709551616
def t2 (s : R8) : Nat := (tr 28 34 39 s.a + maj s.a s.b s.c) % 18446744073709551616
def rd (s : R8) (k w : Nat) : R8 := ⟨(t1 s k w + t2 s) % 18446744073709551616, s.a, s.b, s.c, (s.d + t1 s k w) % 18446744073709551616, s.e, s.f, s.g⟩
theorem rd_U {s : R8} (h : s.U) (k w : Nat) : (rd s k w).U :=
  ⟨⟨Nat.mod_lt _ (by decide), h.1.1, h.1.2.1, h.1.2.2.1⟩, Nat.mod_lt _ (by decide), h.2.1, h.2.2.1, h.2.2.2.1⟩
/-- n rounds. -/
def rds (k w : Nat → Nat) (s : R8) : Nat → R8
  | 0 => s
  | n + 1 => rd (rds k w s n) (k n) (w n)
theorem rds_U {s : R8} (k w : Nat → Nat) (h : s.U) : ∀ n, (rds k w s n).U
  | 0 => h
  | n + 1 => rd_U (rds_U k w h n) _ _
def r8 (s : Nat → Nat) : R8 := ⟨s 0, s 1, s 2, s 3, s 4, s 5, s 6, s 7⟩
def R8.at (r : R8) : Nat → Nat
  | 0 => r.a
  | 1 => r.b
  | 2 => r.c
  | 3 => r.d
  | 4 => r.e
  | 5 => r.f
  | 6 => r.g
  | _ => r.h
/-- The state behind a block. -/
def cmp (k s b : Nat → Nat) : Nat → Nat := fun i => (s i + (rds k (sw b) (r8 s) 80).at i) % 18446744073709551616
theorem cmp_lt (k s b : Nat → Nat) (i : Nat) : U (cmp k s b i) := Nat.mod_lt _ (by decide)
theorem r8_U {s : Nat → Nat} (h : ∀ i, i < 8 → U (s i)) : (r8 s).U := ⟨⟨h 0 (by omega), h 1 (by omega), h 2 (by omega), h 3 (by omega)⟩, h 4 (by omega), h 5 (by omega), h 6 (by omega), h 7 (by omega)⟩
theorem sw_congr {b c : Nat → Nat} (h : ∀ i, i < 128 → b i = c i) (i : Nat) : sw b i = sw c i := by
  induction i using Nat.strongRecOn with
  | _ i ih =>
    by_cases hi : i < 16
    · rw [sw_lo b i hi, sw_lo c i hi]
      have e : ∀ j, j < 8 → b (8 * i + j) = c (8 * i + j) := fun j hj => h _ (by omega)
      unfold wd
      simp only [e 0 (by omega), e 1 (by omega), e 2 (by omega), e 3 (by omega), e 4 (by omega), e 5 (by omega), e 6 (by omega), e 7 (by omega)]
    · rw [sw_hi b i hi, sw_hi c i hi, ih (i - 16) (by omega), ih (i - 15) (by omega), ih (i - 7) (by omega), ih (i - 2) (by omega)]
theorem cmp_congr {k s b c : Nat → Nat} (h : ∀ i, i < 128 → b i = c i) : cmp k s b = cmp k s c := by
  have e : sw b = sw c := funext (sw_congr h)
  unfold cmp; rw [e]

/-- n blocks of a stream. -/
def run (k s u : Nat → Nat) : Nat → (Nat → Nat)
  | 0 => s
  | n + 1 => cmp k (run k s u n) fun j => u (128 * n + j)
theorem run_lt {k s u : Nat → Nat} (h : ∀ i, i < 8 → U (s i)) : ∀ n i, i < 8 → U (run k s u n i)
  | 0, i, hi => h i hi
  | _ + 1, i, _ => cmp_lt _ _ _ i
theorem run_congr {k s u v : Nat → Nat} : ∀ n, (∀ i, i < 128 * n → u i = v i) → run k s u n = run k s v n
  | 0, _ => rfl
  | n + 1, h => by
    rw [run, run, run_congr n fun i hi => h i (by omega)]
    exact cmp_congr fun i hi => h _ (by omega)
theorem run_add (k s u : Nat → Nat) (m : Nat) : ∀ n, run k s u (m + n) = run k (run k s u m) (fun j => u (128 * m + j)) n
  | 0 => rfl
  | n + 1 => by
    rw [← Nat.add_assoc, run, run, run_add k s u m n]
    exact cmp_congr fun i _ => by congr 1; omega
/-- One stream behind another. -/
def cat (u : Nat → Nat) (n : Nat) (v : Nat → Nat) : Nat → Nat := fun i => if i < n then u i else v (i - n)
end Go.Proofs.YtjppbngimacgnaaGreatDoor
