/- Joined: S, BsI, Byt, Rws, GvG. -/
import Derived.Test.YtgjclegpnbjlkaaGreatDoorG
import Derived.Laws.CopyOwn
import Derived.Laws.AppendOwnNone
import Derived.Deep.DeepAppendWide
import Derived.Deep.MidRow
import Derived.Laws.MakeOwn
import Derived.Deep.AppendLies
set_option linter.all false
namespace Go.Proofs.YtgjclegpnbjlkaaGreatDoor
open Go.RowKit
def U (n : Nat) : Prop := n < 18446744073709551616
def vC (n : Nat) (f : Nat → Nat) : Array Value := ((List.range n).map fun i => Value.int .u64 (f i)).toArray
def yC (n : Nat) (f : Nat → Nat) : Array Value := ((List.range n).map fun i => Value.int .u8 (f i)).toArray
theorem vC_size (n : Nat) (f : Nat → Nat) : (vC n f).size = n := by simp [vC]
theorem yC_size (n : Nat) (f : Nat → Nat) : (yC n f).size = n := by simp [yC]
theorem vC_get (n : Nat) (f : Nat → Nat) (i : Nat) (h : i < n) : (vC n f)[i]? = some (.int .u64 (f i)) := by simp [vC, h]
theorem yC_get (n : Nat) (f : Nat → Nat) (i : Nat) (h : i < n) : (yC n f)[i]? = some (.int .u8 (f i)) := by simp [yC, h]
def up (f : Nat → Nat) (i v : Nat) : Nat → Nat := fun j => if j = i then v else f j
theorem vC_set (n : Nat) (f : Nat → Nat) (i v : Nat) : (vC n f).setIfInBounds i (.int .u64 v) = vC n (up f i v) := by
 apply Array.ext_getElem?
 intro j
 by_cases hj : j < n
 · rw [Array.getElem?_setIfInBounds, vC_get n _ j hj, vC_get n _ j hj, vC_size]
   unfold up
   by_cases h : i = j
   · subst h; simp [hj]
   · have h2 : ¬ j = i := fun e => h e.symm
     simp [h, h2]
 · rw [Array.getElem?_eq_none (by rw [Array.size_setIfInBounds, vC_size]; omega), Array.getElem?_eq_none (by rw [vC_size]; omega)]
theorem yC_set (n : Nat) (f : Nat → Nat) (i v : Nat) : (yC n f).setIfInBounds i (.int .u8 v) = yC n (up f i v) := by
 apply Array.ext_getElem?
 intro j
 by_cases hj : j < n
 · rw [Array.getElem?_setIfInBounds, yC_get n _ j hj, yC_get n _ j hj, yC_size]
   unfold up
   by_cases h : i = j
   · subst h; simp [hj]
   · have h2 : ¬ j = i := fun e => h e.symm
     simp [h, h2]
 · rw [Array.getElem?_eq_none (by rw [Array.size_setIfInBounds, yC_size]; omega), Array.getElem?_eq_none (by rw [yC_size]; omega)]
theorem vC_eq {n : Nat} {f g : Nat → Nat} (h : ∀ i, i < n → f i = g i) : vC n f = vC n g := by
 unfold vC
 congr 1
 apply List.map_congr_left
 intro i hi
 rw [h i (by simpa using hi)]
theorem yC_eq {n : Nat} {f g : Nat → Nat} (h : ∀ i, i < n → f i = g i) : yC n f = yC n g := by
 unfold yC
 congr 1
 apply List.map_congr_left
 intro i hi
 rw [h i (by simpa using hi)]
def rr (n x : Nat) : Nat := x >>> n ||| x <<< (64 - n) % 18446744073709551616
def sg0 (x : Nat) : Nat := rr 1 x ^^^ rr 8 x ^^^ x >>> 7
def sg1 (x : Nat) : Nat := rr 19 x ^^^ rr 61 x ^^^ x >>> 6
def tr (i j k x : Nat) : Nat := rr i x ^^^ rr j x ^^^ rr k x
def chc (e f g : Nat) : Nat := (e &&& f) ^^^ ((18446744073709551615 - e) &&& g)
def maj (a b c : Nat) : Nat := (a &&& b) ^^^ (a &&& c) ^^^ (b &&& c)
theorem or_lt {a b : Nat} (ha : U a) (hb : U b) : U (a ||| b) := Nat.or_lt_two_pow (n := 64) ha hb
theorem xor_lt {a b : Nat} (ha : U a) (hb : U b) : U (a ^^^ b) := Nat.xor_lt_two_pow (n := 64) ha hb
theorem and_lt {a b : Nat} (ha : U a) : U (a &&& b) := Nat.lt_of_le_of_lt Nat.and_le_left ha
theorem shr_lt {a : Nat} (n : Nat) (ha : U a) : U (a >>> n) := by
 rw [Nat.shiftRight_eq_div_pow]; exact Nat.lt_of_le_of_lt (Nat.div_le_self _ _) ha
theorem rr_lt (n : Nat) {x : Nat} (hx : U x) : U (rr n x) := or_lt (shr_lt n hx) (Nat.mod_lt _ (by decide))
theorem sg0_lt {x : Nat} (hx : U x) : U (sg0 x) := xor_lt (xor_lt (rr_lt 1 hx) (rr_lt 8 hx)) (shr_lt 7 hx)
theorem sg1_lt {x : Nat} (hx : U x) : U (sg1 x) := xor_lt (xor_lt (rr_lt 19 hx) (rr_lt 61 hx)) (shr_lt 6 hx)
theorem tr_lt (i j k : Nat) {x : Nat} (hx : U x) : U (tr i j k x) := xor_lt (xor_lt (rr_lt i hx) (rr_lt j hx)) (rr_lt k hx)
theorem chc_lt {e f g : Nat} (he : U e) : U (chc e f g) := xor_lt (and_lt he) (and_lt (by unfold U; omega))
theorem maj_lt {a b c : Nat} (ha : U a) (hb : U b) : U (maj a b c) := xor_lt (xor_lt (and_lt ha) (and_lt ha)) (and_lt hb)
def wd (b : Nat → Nat) : Nat := b 7 + b 6 * 256 + b 5 * 65536 + b 4 * 16777216 + b 3 * 4294967296 + b 2 * 1099511627776 + b 1 * 281474976710656 + b 0 * 72057594037927936
theorem wd_lt {b : Nat → Nat} (h : ∀ i, i < 8 → b i < 256) : U (wd b) := by
 have h0 := h 0 (by omega); have h1 := h 1 (by omega); have h2 := h 2 (by omega); have h3 := h 3 (by omega)
 have h4 := h 4 (by omega); have h5 := h 5 (by omega); have h6 := h 6 (by omega); have h7 := h 7 (by omega)
 unfold wd U; omega
def sw (b : Nat → Nat) (i : Nat) : Nat :=
 if h : i < 16 then wd fun j => b (8 * i + j)
 else (sw b (i - 16) + sg0 (sw b (i - 15)) + sw b (i - 7) + sg1 (sw b (i - 2))) % 18446744073709551616
termination_by i
theorem sw_lo (b : Nat → Nat) (i : Nat) (h : i < 16) : sw b i = wd fun j => b (8 * i + j) := by rw [sw, dif_pos h]
theorem sw_hi (b : Nat → Nat) (i : Nat) (h : ¬ i < 16) : sw b i = (sw b (i - 16) + sg0 (sw b (i - 15)) + sw b (i - 7) + sg1 (sw b (i - 2))) % 18446744073709551616 := by rw [sw, dif_neg h]
theorem sw_lt {b : Nat → Nat} (hb : ∀ i, i < 128 → b i < 256) (i : Nat) : U (sw b i) := by
 by_cases h : i < 16
 · rw [sw_lo b i h]; exact wd_lt fun j hj => hb _ (by omega)
 · rw [sw_hi b i h]; exact Nat.mod_lt _ (by decide)
structure R8 where
 a : Nat
 b : Nat
 c : Nat
 d : Nat
 e : Nat
 f : Nat
 g : Nat
 h : Nat
def R8.U (s : R8) : Prop := (Go.Proofs.YtgjclegpnbjlkaaGreatDoor.U s.a ∧ Go.Proofs.YtgjclegpnbjlkaaGreatDoor.U s.b ∧ Go.Proofs.YtgjclegpnbjlkaaGreatDoor.U s.c ∧ Go.Proofs.YtgjclegpnbjlkaaGreatDoor.U s.d) ∧ Go.Proofs.YtgjclegpnbjlkaaGreatDoor.U s.e ∧ Go.Proofs.YtgjclegpnbjlkaaGreatDoor.U s.f ∧ Go.Proofs.YtgjclegpnbjlkaaGreatDoor.U s.g ∧ Go.Proofs.YtgjclegpnbjlkaaGreatDoor.U s.h
def t1 (s : R8) (k w : Nat) : Nat := (s.h + tr 14 18 41 s.e + chc s.e s.f s.g + k + w) % 18446744073709551616
def t2 (s : R8) : Nat := (tr 28 34 39 s.a + maj s.a s.b s.c) % 18446744073709551616
def rd (s : R8) (k w : Nat) : R8 := ⟨(t1 s k w + t2 s) % 18446744073709551616, s.a, s.b, s.c, (s.d + t1 s k w) % 18446744073709551616, s.e, s.f, s.g⟩
theorem rd_U {s : R8} (h : s.U) (k w : Nat) : (rd s k w).U :=
 ⟨⟨Nat.mod_lt _ (by decide), h.1.1, h.1.2.1, h.1.2.2.1⟩, Nat.mod_lt _ (by decide), h.2.1, h.2.2.1, h.2.2.2.1⟩
def rds (k w : Nat → Nat) (s : R8) : Nat → R8
 | 0 => s
 | n + 1 => rd (rds k w s n) (k n) (w n)
theorem rds_U {s : R8} (k w : Nat → Nat) (h : s.U) : ∀ n, (rds k w s n).U
 | 0 => h
 | n + 1 => rd_U (rds_U k w h n) _ _
def r8 (s : Nat → Nat) : R8 := ⟨s 0, s 1, s 2, s 3, s 4, s 5, s 6, s 7⟩
def R8.at (r : R8) : Nat → Nat
 | 0 => r.a
 | 1 => r.b
 | 2 => r.c
 | 3 => r.d
 | 4 => r.e
 | 5 => r.f
 | 6 => r.g
 | _ => r.h
def cmp (k s b : Nat → Nat) : Nat → Nat := fun i => (s i + (rds k (sw b) (r8 s) 80).at i) % 18446744073709551616
theorem cmp_lt (k s b : Nat → Nat) (i : Nat) : U (cmp k s b i) := Nat.mod_lt _ (by decide)
theorem r8_U {s : Nat → Nat} (h : ∀ i, i < 8 → U (s i)) : (r8 s).U := ⟨⟨h 0 (by omega), h 1 (by omega), h 2 (by omega), h 3 (by omega)⟩, h 4 (by omega), h 5 (by omega), h 6 (by omega), h 7 (by omega)⟩
theorem sw_congr {b c : Nat → Nat} (h : ∀ i, i < 128 → b i = c i) (i : Nat) : sw b i = sw c i := by
 induction i using Nat.strongRecOn with
 | _ i ih =>
   by_cases hi : i < 16
   · rw [sw_lo b i hi, sw_lo c i hi]
     have e : ∀ j, j < 8 → b (8 * i + j) = c (8 * i + j) := fun j hj => h _ (by omega)
     unfold wd
     simp only [e 0 (by omega), e 1 (by omega), e 2 (by omega), e 3 (by omega), e 4 (by omega), e 5 (by omega), e 6 (by omega), e 7 (by omega)]
   · rw [sw_hi b i hi, sw_hi c i hi, ih (i - 16) (by omega), ih (i - 15) (by omega), ih (i - 7) (by omega), ih (i - 2) (by omega)]
theorem cmp_congr {k s b c : Nat → Nat} (h : ∀ i, i < 128 → b i = c i) : cmp k s b = cmp k s c := by
 have e : sw b = sw c := funext (sw_congr h)
 unfold cmp; rw [e]
def run (k s u : Nat → Nat) : Nat → (Nat → Nat)
 | 0 => s
 | n + 1 => cmp k (run k s u n) fun j => u (128 * n + j)
theorem run_lt {k s u : Nat → Nat} (h : ∀ i, i < 8 → U (s i)) : ∀ n i, i < 8 → U (run k s u n i)
 | 0, i, hi => h i hi
 | _ + 1, i, _ => cmp_lt _ _ _ i
theorem run_congr {k s u v : Nat → Nat} : ∀ n, (∀ i, i < 128 * n → u i = v i) → run k s u n = run k s v n
 | 0, _ => rfl
 | n + 1, h => by
   rw [run, run, run_congr n fun i hi => h i (by omega)]
   exact cmp_congr fun i hi => h _ (by omega)
theorem run_add (k s u : Nat → Nat) (m : Nat) : ∀ n, run k s u (m + n) = run k (run k s u m) (fun j => u (128 * m + j)) n
 | 0 => rfl
 | n + 1 => by
   rw [← Nat.add_assoc, run, run, run_add k s u m n]
   exact cmp_congr fun i _ => by congr 1; omega
def cat (u : Nat → Nat) (n : Nat) (v : Nat → Nat) : Nat → Nat := fun i => if i < n then u i else v (i - n)
end Go.Proofs.YtgjclegpnbjlkaaGreatDoor

set_option linter.all false
namespace Go.Proofs.YtgjclegpnbjlkaaGreatDoor
open Go.RowKit
structure Bs (w : World) (g o len : Nat) (b : Nat → Nat) : Prop where
 lt : g < w.heap.size
 bd : ∀ i, i < len → b i < 256
 cell : ∀ i, i < len → w.cell? ⟨g, o + i, none⟩ = some (.int .u8 ((b i : Nat) : Int))
theorem Bs.chg {w w' : World} {g o len : Nat} {b : Nat → Nat} {ch : List Nat} (h : Bs w g o len b) (hc : Chg w w' ch) (hb : ¬ g ∈ ch) : Bs w' g o len b := by
 have e := hc.block g h.lt hb
 exact ⟨Nat.lt_of_lt_of_le h.lt hc.size, h.bd, fun i hi => by rw [← h.cell i hi]; simp [World.cell?, e]⟩
theorem Bs.alloc {w : World} {g o len : Nat} {b : Nat → Nat} (h : Bs w g o len b) (x : Obj) : Bs (w.alloc x) g o len b := h.chg ((Chg.refl w []).alloc x) (by simp)
theorem Bs.sub {w : World} {g o len : Nat} {b : Nat → Nat} (h : Bs w g o len b) (i n : Nat) (hi : i + n ≤ len) : Bs w g (o + i) n (fun j => b (i + j)) :=
 ⟨h.lt, fun j hj => h.bd _ (by omega), fun j hj => by rw [Nat.add_assoc]; exact h.cell _ (by omega)⟩
theorem Bs.drew {w : World} {g o len : Nat} {b : Nat → Nat} (h : Bs w g o len b) : Bs w.drew g o len b := h.chg (Chg.refl w []).drew (by simp)
theorem Bs.drewN {w : World} {g o len : Nat} {b : Nat → Nat} (h : Bs w g o len b) (n : Nat) : Bs (w.drewN n) g o len b := h.chg ((Chg.refl w []).drewN n) (by simp)
end Go.Proofs.YtgjclegpnbjlkaaGreatDoor

set_option linter.all false
namespace Go.Proofs.YtgjclegpnbjlkaaGreatDoor
open Go.RowKit
/-! ### Bytes within a block -/
theorem seg_get (pre : Array Value) (N : Nat) (t : Nat → Nat) (post : Array Value) (i : Nat) :
   (pre ++ (yC N t ++ post))[i]? = if i < pre.size then pre[i]? else if i - pre.size < N then some (.int .u8 (t (i - pre.size))) else post[i - pre.size - N]? := by
 by_cases h : i < pre.size
 · rw [if_pos h, Array.getElem?_append_left h]
 · rw [if_neg h, Array.getElem?_append_right (by omega)]
   by_cases h2 : i - pre.size < N
   · rw [if_pos h2, Array.getElem?_append_left (by rw [yC_size]; exact h2), yC_get _ _ _ h2]
   · rw [if_neg h2, Array.getElem?_append_right (by rw [yC_size]; omega), yC_size]
theorem seg_size (pre : Array Value) (N : Nat) (t : Nat → Nat) (post : Array Value) : (pre ++ (yC N t ++ post)).size = pre.size + (N + post.size) := by simp [yC_size]
def lay (t : Nat → Nat) (off n : Nat) (f : Nat → Nat) : Nat → Nat := fun j => if off ≤ j ∧ j < off + n then f (j - off) else t j
def yL (n : Nat) (f : Nat → Nat) : List Value := (List.range n).map fun i => Value.int .u8 (f i)
theorem yL_len (n : Nat) (f : Nat → Nat) : (yL n f).length = n := by simp [yL]
theorem yL_get (n : Nat) (f : Nat → Nat) (i : Nat) (h : i < n) : (yL n f)[i]? = some (.int .u8 (f i)) := by simp [yL, h]
theorem yL_some (n : Nat) (f : Nat → Nat) (i : Nat) (v : Value) (h : (yL n f)[i]? = some v) : i < n ∧ v = .int .u8 (f i) := by
 by_cases hi : i < n
 · rw [yL_get n f i hi] at h; simp at h; exact ⟨hi, h.symm⟩
 · rw [List.getElem?_eq_none (by rw [yL_len]; omega)] at h; simp at h
theorem yL_one (n : Nat) (f : Nat → Nat) : ∀ v ∈ yL n f, v.oneCell' = true := by
 intro v hv
 simp [yL] at hv
 obtain ⟨i, _, rfl⟩ := hv
 rfl
theorem yC_one (n : Nat) (f : Nat → Nat) : (yC n f).all (·.oneCell') = true := by simp [yC, Value.oneCell']
theorem vC_one (n : Nat) (f : Nat → Nat) : (vC n f).all (·.oneCell') = true := by simp [vC, Value.oneCell']
theorem lay_row (pre : Array Value) (N : Nat) (t : Nat → Nat) (post : Array Value) (off n : Nat) (f : Nat → Nat) (h : off + n ≤ N) :
   ((pre ++ (yC N t ++ post)).toList.take (pre.size + off) ++ (yL n f ++ (pre ++ (yC N t ++ post)).toList.drop (pre.size + off + n))).toArray = pre ++ (yC N (lay t off n f) ++ post) := by
 obtain ⟨cur, hcur⟩ : ∃ c, c = pre ++ (yC N t ++ post) := ⟨_, rfl⟩
 have hz : cur.size = pre.size + (N + post.size) := by rw [hcur, seg_size]
 have hl : cur.toList.length = cur.size := Array.length_toList
 rw [← hcur]
 apply Array.ext_getElem?
 intro i
 rw [seg_get, List.getElem?_toArray]
 by_cases h1 : i < pre.size + off
 · rw [List.getElem?_append_left (by rw [List.length_take]; omega), List.getElem?_take_of_lt h1, Array.getElem?_toList, hcur, seg_get]
   by_cases h2 : i < pre.size
   · rw [if_pos h2, if_pos h2]
   · rw [if_neg h2, if_neg h2, if_pos (by omega), if_pos (by omega)]
     unfold lay
     rw [if_neg (by omega)]
 · have ht : (cur.toList.take (pre.size + off)).length = pre.size + off := by rw [List.length_take]; omega
   rw [List.getElem?_append_right (by omega), ht]
   by_cases h2 : i < pre.size + off + n
   · rw [List.getElem?_append_left (by rw [yL_len]; omega), yL_get _ _ _ (by omega), if_neg (by omega), if_pos (by omega)]
     unfold lay
     rw [if_pos (by omega), show i - (pre.size + off) = i - pre.size - off from by omega]
   · rw [List.getElem?_append_right (by rw [yL_len]; omega), yL_len, List.getElem?_drop, Array.getElem?_toList, hcur, seg_get,
       show pre.size + off + n + (i - (pre.size + off) - n) = i from by omega]
     have h5 : ¬ i < pre.size := by omega
     simp only [if_neg h5]
     by_cases h3 : i - pre.size < N
     · rw [if_pos h3, if_pos h3]
       unfold lay
       rw [if_neg (by omega)]
     · rw [if_neg h3, if_neg h3]
theorem lay_zero (t : Nat → Nat) (off : Nat) (f : Nat → Nat) : lay t off 0 f = t := by
 funext j
 unfold lay
 rw [if_neg (by omega)]
theorem add_cell {w : World} {g o j : Nat} {v : Option Value} (h : w.cell? ⟨g, o + j, none⟩ = v) : w.cell? ((⟨g, o, none⟩ : Addr).add j) = v := by
 unfold Addr.add
 split
 · next e => subst e; simpa using h
 · exact h
theorem copy_y {P : Program} {w : World} {ops : Array Oper} {rest : List Oper} {o : Oper} {a : Act} {Q : Exit → Act → World → Prop} (hgd : o.guard = none) (d s : Operand) (dT sT : TypeId)
   (ho : o.op = .call { callee := .builtin .copy, args := #[d, s], argTypes := #[dT, sT] }) (elem : TypeId) (hu : P.underlying dT = some (.slice elem)) (hsz : (P.info? elem).map (·.size) = some 1)
   (g at' dLen dCap : Nat) (sp : Option Addr) (sLen sCap : Nat) (hd : a.eval d = .slice (some ⟨g, at', none⟩) dLen dCap) (hs : a.eval s = .slice sp sLen sCap)
   (pre : Array Value) (N : Nat) (t : Nat → Nat) (post : Array Value) (T : TypeId) (hg : Blk w g (pre ++ (yC N t ++ post)) T) (off n : Nat) (f : Nat → Nat) (hat : 0 < n → at' = pre.size + off) (hn : n = Nat.min sLen dLen)
   (hsrc : 0 < n → ∃ gs os, sp = some ⟨gs, os, none⟩ ∧ ∀ j, j < n → w.cell? ⟨gs, os + j, none⟩ = some (.int .u8 (f j))) (hfit : off + n ≤ N)
   (h : ∀ w', Blk w' g (pre ++ (yC N (lay t off n f) ++ post)) T → Chg w w' [g] → wpList P ops Q rest (a.put o.dst (goInt n)) w') : wpList P ops Q (o :: rest) a w := by
 by_cases h0 : n = 0
 · subst h0
   refine wpList_copy_nothing hgd d s dT sT ho elem hu hsz _ _ _ _ _ _ hd hs hn.symm ?_
   exact h w (by rw [lay_zero]; exact hg) (Chg.refl w _)
 · obtain ⟨gs, os, rfl, hc⟩ := hsrc (by omega)
   obtain rfl := hat (by omega)
   have hk := wpList_copy_own (P := P) (w := w) (ops := ops) (rest := rest) (o := o) (a := a) (Q := Q) hgd d s dT sT ho elem hu hsz g (pre.size + off) dLen dCap ⟨gs, os, none⟩ sLen sCap hd hs _ T hg (yL n f) (by rw [yL_len]; exact hn)
     (fun j v hj => by obtain ⟨h1, rfl⟩ := yL_some n f j v hj; exact add_cell (hc j h1)) (by rw [yL_len, seg_size]; omega) (yL_one n f)
   rw [yL_len, lay_row pre N t post off n f hfit] at hk
   exact hk (h _ (hg.setRow _) ⟨rfl, rfl, rfl, by simp, fun k hk hl => setRow_other _ _ _ _ (by simpa using hl)⟩)
def Sl (w : World) (v : Value) (n : Nat) (f : Nat → Nat) : Prop := (n = 0 ∧ v = .slice none 0 0) ∨ ∃ g o cap, v = .slice (some ⟨g, o, none⟩) n cap ∧ n ≤ cap ∧ cap ≤ 9223372036854775807 ∧ Bs w g o n f
def Off (v : Value) (l : List Nat) : Prop := ∀ g o n c, v = .slice (some ⟨g, o, none⟩) n c → ¬ g ∈ l
theorem Sl.chg {w w' : World} {v : Value} {n : Nat} {f : Nat → Nat} {ch : List Nat} (h : Sl w v n f) (hc : Chg w w' ch) (ho : Off v ch) : Sl w' v n f := by
 rcases h with h | ⟨g, o, cap, rfl, h1, h2, h3⟩
 · exact Or.inl h
 · exact Or.inr ⟨g, o, cap, rfl, h1, h2, h3.chg hc (ho g o n cap rfl)⟩
theorem Sl.new {w : World} {v : Value} {n : Nat} {f : Nat → Nat} (h : Sl w v n f) (l : List Nat) (hl : ∀ i ∈ l, w.heap.size ≤ i) : Off v l := by
 intro g o m c he hg
 rcases h with h | ⟨g', o', cap, h0, h1, h2, h3⟩
 · rw [he] at h
   exact absurd h.2 (by simp)
 · have q1 := h3.lt
   have q2 := hl g hg
   rw [he] at h0
   have e : g = g' := by
     simp only [Value.slice.injEq, Option.some.injEq, Addr.mk.injEq] at h0
     exact h0.1.1
   omega
theorem Off.nil (v : Value) : Off v [] := fun g o n c _ h => by simp at h
theorem cat_zero (t f : Nat → Nat) : cat t 0 f = f := by funext j; unfold cat; rw [if_neg (by omega), Nat.sub_zero]
def Own (w : World) (base : Nat) (v : Value) (n : Nat) (f : Nat → Nat) : Prop := w.ownsRow base 5 1 v n (yL n f) ∧ ∀ i, i < n → f i < 256
theorem Own.nil (w : World) (base : Nat) (f : Nat → Nat) : Own w base (.slice none 0 0) 0 f := ⟨World.ownsRow_nil w base _ _, fun i hi => by omega⟩
theorem Own.sl {w : World} {base : Nat} {v : Value} {n : Nat} {f : Nat → Nat} (h : Own w base v n f) : Sl w v n f := by
 obtain ⟨⟨_, h1⟩, hb⟩ := h
 rcases h1 with ⟨rfl, rfl⟩ | ⟨g, cap, cur, rfl, hg, hh, hc, hm, hs, ht⟩
 · exact Or.inl ⟨rfl, rfl⟩
 · refine Or.inr ⟨g, 0, cap, rfl, hc, by simpa [maxLen] using hm, (Array.getElem?_eq_some_iff.1 hh).1, hb, fun i hi => ?_⟩
   have e := congrArg (fun l => l[i]?) ht
   simp only [Nat.mul_one] at e
   rw [List.getElem?_take_of_lt hi, yL_get _ _ _ hi, Array.getElem?_toList] at e
   simp [World.cell?, hh, e]
theorem Own.off {w : World} {base : Nat} {v : Value} {n : Nat} {f : Nat → Nat} (h : Own w base v n f) (l : List Nat) (hl : ∀ i ∈ l, i < base) : Off v l := by
 obtain ⟨⟨_, h1⟩, _⟩ := h
 intro g o m c he hg
 rcases h1 with ⟨h1, _⟩ | ⟨g', cap, cur, h1, hg', _⟩
 · rw [h1] at he; simp at he
 · rw [h1] at he
   simp only [Value.slice.injEq, Option.some.injEq, Addr.mk.injEq] at he
   have := hl g hg
   omega
def ob (v : Value) : List Nat := v.ownBlock.toList
theorem Chg.grown {w w' : World} {v : Value} (h : w.grownBy w' v.ownBlock) : Chg w w' (ob v) :=
 ⟨h.os, h.tape, h.output, h.size, fun k hk hl => h.block k hk (fun e => hl (by unfold ob; rw [← e]; simp))⟩
theorem Own.chg {w w' : World} {base : Nat} {v : Value} {n : Nat} {f : Nat → Nat} {l : List Nat} (h : Own w base v n f) (hc : Chg w w' l) (ho : ∀ k ∈ ob v, ¬ k ∈ l) : Own w' base v n f := by
 obtain ⟨⟨h0, h1⟩, h2⟩ := h
 refine ⟨⟨h0, ?_⟩, h2⟩
 rcases h1 with h1 | ⟨g, cap, cur, rfl, hg, hh, hr⟩
 · exact Or.inl h1
 · refine Or.inr ⟨g, cap, cur, rfl, hg, ?_, hr⟩
   rw [hc.block g (Array.getElem?_eq_some_iff.1 hh).1 (ho g (by simp [ob, Value.ownBlock]))]
   exact hh
theorem Own.ob_ge {w : World} {base : Nat} {v : Value} {n : Nat} {f : Nat → Nat} (h : Own w base v n f) : ∀ k ∈ ob v, base ≤ k ∧ k < w.heap.size := by
 intro k hk
 exact h.1.lt k (by unfold ob at hk; cases hq : v.ownBlock with
   | none => rw [hq] at hk; simp at hk
   | some x => rw [hq] at hk; simp at hk; rw [hk])
theorem Own.form {w : World} {base : Nat} {v : Value} {n : Nat} {f : Nat → Nat} (h : Own w base v n f) (hn : 0 < n) :
   ∃ g cap, v = .slice (some ⟨g, 0, none⟩) n cap ∧ base ≤ g ∧ n ≤ cap ∧ cap ≤ 9223372036854775807 ∧ Bs w g 0 n f := by
 have hs := h.sl
 obtain ⟨⟨_, h1⟩, _⟩ := h
 rcases h1 with ⟨_, h1⟩ | ⟨g, cap, cur, rfl, hg, hh, hc, hm, _⟩
 · omega
 · refine ⟨g, cap, rfl, hg, hc, by simpa [maxLen] using hm, ?_⟩
   rcases hs with ⟨h0, _⟩ | ⟨g', o', cap', he, _, _, hb⟩
   · omega
   · simp only [Value.slice.injEq, Option.some.injEq, Addr.mk.injEq] at he
     obtain ⟨⟨rfl, rfl, _⟩, _⟩ := he
     exact hb
theorem Own.base {w : World} {base base' : Nat} {v : Value} {n : Nat} {f : Nat → Nat} (h : Own w base v n f) (hb : base' ≤ base) : Own w base' v n f := by
 obtain ⟨⟨h0, h1⟩, h2⟩ := h
 refine ⟨⟨h0, ?_⟩, h2⟩
 rcases h1 with h1 | ⟨g, cap, cur, e, hg, hr⟩
 · exact Or.inl h1
 · exact Or.inr ⟨g, cap, cur, e, Nat.le_trans hb hg, hr⟩
theorem u8Row : ∃ i, Tryz.prog.info? 5 = some i ∧ i.zero = some (.int .u8 0) ∧ i.size = 1 ∧ i.bytes = 1 := by
 have h : (Tryz.prog.info? 5).map (fun i => (i.zero, i.size, i.bytes)) = some (some (.int .u8 0), 1, 1) := by kernel_rfl
 cases hi : Tryz.prog.info? 5 with
 | none => rw [hi] at h; simp at h
 | some i => rw [hi] at h; simp at h; exact ⟨i, rfl, h.1, h.2.1, h.2.2⟩
theorem yL_cat (n m : Nat) (f g : Nat → Nat) : yL n f ++ yL m g = yL (n + m) (cat f n g) := by
 apply List.ext_getElem?
 intro i
 by_cases h : i < n
 · rw [List.getElem?_append_left (by rw [yL_len]; exact h), yL_get _ _ _ h, yL_get _ _ _ (by omega)]
   unfold cat
   rw [if_pos h]
 · rw [List.getElem?_append_right (by rw [yL_len]; omega), yL_len]
   by_cases h2 : i < n + m
   · rw [yL_get _ _ _ (by omega), yL_get _ _ _ h2]
     unfold cat
     rw [if_neg h]
   · rw [List.getElem?_eq_none (by rw [yL_len]; omega), List.getElem?_eq_none (by rw [yL_len]; omega)]
theorem append_y {w : World} {ops : Array Oper} {rest : List Oper} {o : Oper} {a : Act} {Q : Exit → Act → World → Prop} (hgd : o.guard = none) (s x : Operand)
   (ho : o.op = .call { callee := .builtin .append, args := #[s, x], argTypes := #[29, 29] })
   (base : Nat) (vs vx : Value) (n m : Nat) (f g : Nat → Nat) (hs : a.eval s = vs) (hx : a.eval x = vx) (hown : Own w base vs n f) (hsl : Sl w vx m g) (hnm : n + m ≤ 211106232532992) (hbase : base ≤ w.heap.size)
   (h : ∀ v' w', Own w' base v' (n + m) (cat f n g) → Chg w w' (ob vs) → wpList Tryz.prog ops Q rest (a.put o.dst v') w') : wpList Tryz.prog ops Q (o :: rest) a w := by
 obtain ⟨i, hi, hz, h1, h2⟩ := u8Row
 rcases hsl with ⟨rfl, rfl⟩ | ⟨gx, ox, cap, rfl, hc1, hc2, hb⟩
 · refine wpList_append_own_none hgd s x 29 ho base 5 i 1 Tryz.underlying29 hi vs n (yL n f) hs hown.1 hx ?_
   refine h vs w ⟨?_, fun j hj => ?_⟩ (Chg.refl w _)
   · have e : yL (n + 0) (cat f n g) = yL n f := by rw [← yL_cat]; simp [yL]
     rw [e]
     exact hown.1
   · unfold cat
     rw [if_pos (by omega)]
     exact hown.2 j (by omega)
 · refine wpList_append_own_wide w hgd s x 29 ho base 5 i (.int .u8 0) 1 1 Tryz.underlying29 hi hz h1 h2 rfl (by omega) vs n (yL n f) hs hown.1 ⟨gx, ox, none⟩ m cap (yL m g) hx (by rw [yL_len]; omega)
     (fun j u hj => by obtain ⟨hj1, rfl⟩ := yL_some m g j u hj; exact add_cell (hb.cell j hj1)) (yL_one m g) (by simp [maxLen]; omega) (by omega) hbase ?_
   intro v' w' h3 h4 _
   rw [yL_cat] at h3
   refine h v' w' ⟨h3, fun j hj => ?_⟩ (Chg.grown h4)
   unfold cat
   by_cases hj2 : j < n
   · rw [if_pos hj2]; exact hown.2 j hj2
   · rw [if_neg hj2]; exact hb.bd _ (by omega)
theorem made_y (n : Nat) : madeCells #[.int .u8 0] n = yC n fun _ => 0 := by
 unfold madeCells
 apply Array.ext_getElem?
 intro i
 by_cases h : i < n
 · rw [yC_get _ _ _ h]
   simp [h, Nat.mod_one]
 · rw [Array.getElem?_eq_none (by simp; omega), Array.getElem?_eq_none (by rw [yC_size]; omega)]
end Go.Proofs.YtgjclegpnbjlkaaGreatDoor

set_option linter.all false
namespace Go.Proofs.YtgjclegpnbjlkaaGreatDoor
open Go.RowKit
def rL (s m : Nat) (F : Nat → List Value) : List Value := (List.range (m * s)).map fun k => ((F (k / s))[k % s]?).getD (.int .u8 0)
def Rok (s m : Nat) (F : Nat → List Value) : Prop := ∀ i, i < m → (F i).length = s ∧ ∀ v ∈ F i, v.oneCell' = true
theorem rL_len (s m : Nat) (F : Nat → List Value) : (rL s m F).length = m * s := by simp [rL]
theorem row_lt {s m i j : Nat} (hi : i < m) (hj : j < s) : i * s + j < m * s := by
 have h : (i + 1) * s ≤ m * s := Nat.mul_le_mul_right s hi
 rw [Nat.add_mul, Nat.one_mul] at h
 omega
theorem row_div {s i j : Nat} (hj : j < s) : (i * s + j) / s = i := by
 rw [Nat.add_comm, Nat.add_mul_div_right _ _ (by omega), Nat.div_eq_of_lt hj, Nat.zero_add]
theorem row_mod {s i j : Nat} (hj : j < s) : (i * s + j) % s = j := by
 rw [Nat.add_comm, Nat.add_mul_mod_self_right, Nat.mod_eq_of_lt hj]
theorem row_at {s m k : Nat} (h : k < m * s) : k / s < m ∧ k % s < s ∧ k = k / s * s + k % s := by
 have hs : 0 < s := by
   rcases Nat.eq_zero_or_pos s with rfl | h0
   · simp at h
   · exact h0
 refine ⟨(Nat.div_lt_iff_lt_mul hs).2 h, Nat.mod_lt _ hs, ?_⟩
 have := Nat.div_add_mod k s
 rw [Nat.mul_comm] at this
 omega
theorem rL_get {s m : Nat} {F : Nat → List Value} (hF : Rok s m F) {i j : Nat} (hi : i < m) (hj : j < s) : (rL s m F)[i * s + j]? = (F i)[j]? := by
 have hl := (hF i hi).1
 rw [rL, List.getElem?_map, List.getElem?_range (row_lt hi hj), Option.map_some, row_div hj, row_mod hj, List.getElem?_eq_getElem (by omega)]
 rfl
theorem rL_at {s m : Nat} {F : Nat → List Value} (hF : Rok s m F) {k : Nat} (h : k < m * s) : (rL s m F)[k]? = (F (k / s))[k % s]? := by
 obtain ⟨h1, h2, h3⟩ := row_at h
 have := rL_get hF h1 h2
 rwa [← h3] at this
theorem rL_congr {s m : Nat} {F G : Nat → List Value} (h : ∀ i, i < m → F i = G i) : rL s m F = rL s m G := by
 apply List.ext_getElem?
 intro k
 by_cases hk : k < m * s
 · rw [rL, rL, List.getElem?_map, List.getElem?_map, List.getElem?_range hk, Option.map_some, Option.map_some, h _ (row_at hk).1]
 · rw [List.getElem?_eq_none (by rw [rL_len]; omega), List.getElem?_eq_none (by rw [rL_len]; omega)]
theorem rL_one {s m : Nat} {F : Nat → List Value} (hF : Rok s m F) : ∀ v ∈ rL s m F, v.oneCell' = true := by
 intro v hv
 obtain ⟨k, hk, he⟩ := List.getElem_of_mem hv
 have hk' : k < m * s := by rw [rL_len] at hk; exact hk
 have h2 : (rL s m F)[k]? = some v := by rw [List.getElem?_eq_getElem hk, he]
 rw [rL_at hF hk'] at h2
 exact (hF _ (row_at hk').1).2 v (List.mem_of_getElem? h2)
def catR (F : Nat → List Value) (n : Nat) (G : Nat → List Value) : Nat → List Value := fun i => if i < n then F i else G (i - n)
theorem rL_cat (s n m : Nat) (F G : Nat → List Value) : rL s n F ++ rL s m G = rL s (n + m) (catR F n G) := by
 apply List.ext_getElem?
 intro k
 have e : (n + m) * s = n * s + m * s := Nat.add_mul n m s
 by_cases h : k < n * s
 · rw [List.getElem?_append_left (by rw [rL_len]; exact h), rL, rL, List.getElem?_map, List.getElem?_map, List.getElem?_range h, List.getElem?_range (by omega), Option.map_some, Option.map_some]
   unfold catR
   rw [if_pos (row_at h).1]
 · rw [List.getElem?_append_right (by rw [rL_len]; omega), rL_len]
   by_cases h2 : k < (n + m) * s
   · obtain ⟨h3, h4, h5⟩ := row_at h2
     have hn : ¬ k / s < n := fun hc => h (by have := row_lt hc h4; omega)
     have e2 : k - n * s = (k / s - n) * s + k % s := by
       rw [Nat.sub_mul]
       have : n * s ≤ k / s * s := Nat.mul_le_mul_right s (by omega)
       omega
     rw [rL, rL, List.getElem?_map, List.getElem?_map, List.getElem?_range (by omega), List.getElem?_range h2, Option.map_some, Option.map_some, e2, row_div h4, row_mod h4]
     unfold catR
     rw [if_neg hn]
   · rw [List.getElem?_eq_none (by rw [rL_len]; omega), List.getElem?_eq_none (by rw [rL_len]; omega)]
theorem Rok.cat {s n m : Nat} {F G : Nat → List Value} (hF : Rok s n F) (hG : Rok s m G) : Rok s (n + m) (catR F n G) := by
 intro i hi
 unfold catR
 by_cases h : i < n
 · rw [if_pos h]; exact hF i h
 · rw [if_neg h]; exact hG _ (by omega)
theorem Rok.sub {s n m : Nat} {F : Nat → List Value} (hF : Rok s n F) (h : m ≤ n) : Rok s m F := fun i hi => hF i (by omega)
def upR (F : Nat → List Value) (i : Nat) (x : List Value) : Nat → List Value := fun j => if j = i then x else F j
theorem Rok.up {s m : Nat} {F : Nat → List Value} (hF : Rok s m F) (i : Nat) {x : List Value} (hx : x.length = s) (h1 : ∀ v ∈ x, v.oneCell' = true) : Rok s m (upR F i x) := by
 intro j hj
 unfold upR
 by_cases h : j = i
 · rw [if_pos h]; exact ⟨hx, h1⟩
 · rw [if_neg h]; exact hF j hj
/-! ### Cells set one by one -/
def setL (C : Array Value) : Nat → List Value → Array Value
 | _, [] => C
 | o, v :: r => setL (C.setIfInBounds o v) (o + 1) r
theorem setL_get (C : Array Value) (o : Nat) (vs : List Value) (k : Nat) : (setL C o vs)[k]? = if o ≤ k ∧ k < o + vs.length ∧ k < C.size then vs[k - o]? else C[k]? := by
 induction vs generalizing C o with
 | nil => rw [setL, if_neg (by simp; omega)]
 | cons v r ih =>
   rw [setL, ih, Array.size_setIfInBounds]
   by_cases h : o + 1 ≤ k ∧ k < o + 1 + r.length ∧ k < C.size
   · rw [if_pos h, if_pos (by simp; omega), show k - o = (k - (o + 1)) + 1 from by omega, List.getElem?_cons_succ]
   · rw [if_neg h]
     by_cases h2 : o = k
     · subst h2
       by_cases h3 : o < C.size
       · rw [if_pos (by simp; omega), Nat.sub_self, Array.getElem?_setIfInBounds_self_of_lt h3]
         rfl
       · rw [if_neg (by omega), Array.getElem?_eq_none (by simp; omega), Array.getElem?_eq_none (by omega)]
     · rw [if_neg (by simp; omega), Array.getElem?_setIfInBounds_ne h2]
theorem Blk.setCells {w : World} {b : Nat} {C : Array Value} {T : TypeId} (h : Blk w b C T) (o : Nat) (vs : List Value) : Blk (w.setCells b o vs) b (setL C o vs) T := by
 induction vs generalizing w C o with
 | nil => exact h
 | cons v r ih => exact ih (h.setCell o v) (o + 1)
theorem Chg.setCellsIn {a w : World} {l : List Nat} {b : Nat} (h : Chg a w l) (hb : b ∈ l) (o : Nat) (vs : List Value) : Chg a (w.setCells b o vs) l := by
 induction vs generalizing w o with
 | nil => exact h
 | cons v r ih => exact ih (h.setIn hb o v) (o + 1)
theorem Blk.there {w : World} {b : Nat} {C : Array Value} {T : TypeId} (h : Blk w b C T) {o n : Nat} (hn : o + n ≤ C.size) : w.there b o n := fun j hj =>
 ⟨by rw [h.cell, Array.getElem?_eq_getElem (by omega)]; rfl, h.frozen _⟩
/-! ### Slices of rows -/
theorem rangeAt_chg {w w' : World} {g o : Nat} {cs : List Value} {l : List Nat} (h : w.rangeAt g o cs) (hg : g < w.heap.size) (hc : Chg w w' l) (hn : ¬ g ∈ l) : w'.rangeAt g o cs := fun j v hv => by
 rw [← h j v hv]
 simp only [World.cell?, hc.block g hg hn]
def Rl (w : World) (s : Nat) (v : Value) (N : Nat) (F : Nat → List Value) : Prop := Rok s N F ∧
 ((N = 0 ∧ v = .slice none 0 0) ∨ ∃ g o cap, v = .slice (some ⟨g, o, none⟩) N cap ∧ N ≤ cap ∧ cap ≤ 9223372036854775807 ∧ g < w.heap.size ∧ ∀ i, i < N → w.rangeAt g (o + i * s) (F i))
theorem Rl.chg {w w' : World} {s : Nat} {v : Value} {N : Nat} {F : Nat → List Value} {l : List Nat} (h : Rl w s v N F) (hc : Chg w w' l) (ho : Off v l) : Rl w' s v N F := by
 refine ⟨h.1, ?_⟩
 rcases h.2 with h2 | ⟨g, o, cap, rfl, h1, h2, h3, h4⟩
 · exact Or.inl h2
 · exact Or.inr ⟨g, o, cap, rfl, h1, h2, Nat.lt_of_lt_of_le h3 hc.size, fun i hi => rangeAt_chg (h4 i hi) h3 hc (ho g o N cap rfl)⟩
theorem Rl.form {w : World} {s : Nat} {v : Value} {N : Nat} {F : Nat → List Value} (h : Rl w s v N F) : ∃ p c, v = .slice p N c ∧ ∀ i, i < N → ∃ g o, p = some ⟨g, o, none⟩ ∧ g < w.heap.size ∧ w.rangeAt g (o + i * s) (F i) := by
 rcases h.2 with ⟨rfl, rfl⟩ | ⟨g, o, cap, rfl, h1, h2, h3, h4⟩
 · exact ⟨none, 0, rfl, fun i hi => by omega⟩
 · exact ⟨_, cap, rfl, fun i hi => ⟨g, o, rfl, h3, h4 i hi⟩⟩
theorem Rl.new {w : World} {s : Nat} {v : Value} {N : Nat} {F : Nat → List Value} (h : Rl w s v N F) (l : List Nat) (hl : ∀ i ∈ l, w.heap.size ≤ i) : Off v l := by
 intro g o n c he hg
 rcases h.2 with ⟨_, rfl⟩ | ⟨g', o', cap, rfl, h1, h2, h3, h4⟩
 · cases he
 · simp only [Value.slice.injEq, Option.some.injEq, Addr.mk.injEq] at he
   have := hl g hg
   omega
theorem Rl.cells {w : World} {s : Nat} {g o cap N : Nat} {F : Nat → List Value} (hF : Rok s N F) (h : ∀ i, i < N → w.rangeAt g (o + i * s) (F i)) : ∀ j u, (rL s N F)[j]? = some u → w.cell? ((⟨g, o, none⟩ : Addr).add j) = some u := by
 intro k u hk
 have hl : k < N * s := by have := (List.getElem?_eq_some_iff.1 hk).1; rwa [rL_len] at this
 obtain ⟨h1, h2, h3⟩ := row_at hl
 refine add_cell ?_
 rw [rL_at hF hl] at hk
 have := h (k / s) h1 (k % s) u hk
 rwa [Nat.add_assoc, ← h3] at this
def OwnR (w : World) (base : Nat) (T : TypeId) (s : Nat) (v : Value) (n : Nat) (F : Nat → List Value) : Prop := w.ownsRow base T s v n (rL s n F) ∧ Rok s n F
theorem OwnR.nil (w : World) (base : Nat) (T : TypeId) (s : Nat) (F : Nat → List Value) : OwnR w base T s (.slice none 0 0) 0 F := by
 refine ⟨?_, fun i hi => by omega⟩
 have e : rL s 0 F = [] := List.eq_nil_of_length_eq_zero (by rw [rL_len]; omega)
 rw [e]
 exact World.ownsRow_nil w base T s
theorem OwnR.rl {w : World} {base : Nat} {T : TypeId} {s : Nat} {v : Value} {n : Nat} {F : Nat → List Value} (h : OwnR w base T s v n F) : Rl w s v n F := by
 obtain ⟨⟨_, h1⟩, hF⟩ := h
 refine ⟨hF, ?_⟩
 rcases h1 with ⟨rfl, rfl⟩ | ⟨g, cap, cur, rfl, hg, hh, hc, hm, hs, ht⟩
 · exact Or.inl ⟨rfl, rfl⟩
 · refine Or.inr ⟨g, 0, cap, rfl, hc, by simpa [maxLen] using hm, (Array.getElem?_eq_some_iff.1 hh).1, fun i hi j u hu => ?_⟩
   have hj : j < s := by have := (List.getElem?_eq_some_iff.1 hu).1; rw [(hF i hi).1] at this; exact this
   have e := congrArg (fun l => l[i * s + j]?) ht
   rw [List.getElem?_take_of_lt (row_lt hi hj), rL_get hF hi hj, hu, Array.getElem?_toList] at e
   rw [Nat.zero_add]
   simp [World.cell?, hh, e]
theorem OwnR.chg {w w' : World} {base : Nat} {T : TypeId} {s : Nat} {v : Value} {n : Nat} {F : Nat → List Value} {l : List Nat} (h : OwnR w base T s v n F) (hc : Chg w w' l) (ho : ∀ k ∈ ob v, ¬ k ∈ l) : OwnR w' base T s v n F := by
 obtain ⟨⟨h0, h1⟩, h2⟩ := h
 refine ⟨⟨h0, ?_⟩, h2⟩
 rcases h1 with h1 | ⟨g, cap, cur, rfl, hg, hh, hr⟩
 · exact Or.inl h1
 · refine Or.inr ⟨g, cap, cur, rfl, hg, ?_, hr⟩
   rw [hc.block g (Array.getElem?_eq_some_iff.1 hh).1 (ho g (by simp [ob, Value.ownBlock]))]
   exact hh
theorem run_append_r {P : Program} (w : World) (t ty e : TypeId) (i : TypeInfo) (z : Value) (s bytes : Nat) (ht : P.underlying t = some (.slice e)) (hi : P.info? e = some i) (hz : i.zero = some z)
   (hsize : i.size = s) (hby : i.bytes = bytes) (hzs : z.cells.size = s) (hsz : 0 < s) (base : Nat) (v x : Value) (n m : Nat) (F G : Nat → List Value) (hown : OwnR w base e s v n F) (hx : Rl w s x m G) (hm : 0 < m) (hbytes : (n + m) * bytes ≤ 140737488355328) (h63 : n + m ≤ 9223372036854775807) (hbase : base ≤ w.heap.size) :
   ∃ g cap w', (Builtin.append_ #[t, t] ty #[v, x]).run P w = .ok (.slice (some ⟨g, 0, none⟩) (n + m) cap) w' ∧ OwnR w' base e s (.slice (some ⟨g, 0, none⟩) (n + m) cap) (n + m) (catR F n G) ∧ Chg w w' (ob v) ∧ (v.ownBlock = some g ∨ g = w.heap.size) ∧ g < w'.heap.size := by
 rcases hx.2 with ⟨h0, _⟩ | ⟨gx, ox, cx, rfl, h1, h2, h3, h4⟩
 · omega
 · obtain ⟨g, cap, w', hr, q1, q2, q3, q4⟩ := run_append_lies (P := P) w t ty base e i z s bytes ht hi hz hsize hby hzs hsz v n (rL s n F) hown.1 ⟨gx, ox, none⟩ m cx (rL s m G) (rL_len s m G)
     (Rl.cells (cap := cx) hx.1 h4) (rL_one hx.1) hm (by simpa [maxLen] using h63) hbytes hbase _ rfl
   rw [rL_cat] at q1
   exact ⟨g, cap, w', hr, ⟨q1, hown.2.cat hx.1⟩, Chg.grown q2, q3, q4⟩
theorem wp_append_r {P : Program} {w : World} {o : Oper} {a : Act} {K : Act → World → Prop} {Q : Exit → Act → World → Prop} (so xo : Operand) (t : TypeId)
   (ho : o.op = .call { callee := .builtin .append, args := #[so, xo], argTypes := #[t, t] })
   (e : TypeId) (i : TypeInfo) (z : Value) (s bytes : Nat) (ht : P.underlying t = some (.slice e)) (hi : P.info? e = some i) (hz : i.zero = some z)
   (hsize : i.size = s) (hby : i.bytes = bytes) (hzs : z.cells.size = s) (hsz : 0 < s) (base : Nat) (v x : Value) (n m : Nat) (F G : Nat → List Value) (hs : a.eval so = v) (hxe : a.eval xo = x) (hown : OwnR w base e s v n F) (hx : Rl w s x m G) (hm : 0 < m) (hbytes : (n + m) * bytes ≤ 140737488355328) (h63 : n + m ≤ 9223372036854775807) (hbase : base ≤ w.heap.size)
   (h : ∀ g cap w', OwnR w' base e s (.slice (some ⟨g, 0, none⟩) (n + m) cap) (n + m) (catR F n G) → Chg w w' (ob v) → (v.ownBlock = some g ∨ g = w.heap.size) → g < w'.heap.size → K (a.put o.dst (.slice (some ⟨g, 0, none⟩) (n + m) cap)) w') : o.wp P a w K Q := by
 obtain ⟨g, cap, w', hr, q1, q2, q3, q4⟩ := run_append_r (P := P) w t o.type e i z s bytes ht hi hz hsize hby hzs hsz base v x n m F G hown hx hm hbytes h63 hbase
 unfold Oper.wp execOp
 simp only [ho, resolve, invoke, builtin, Sem.run_bind, Sem.run_pure, Result.andThen_ok, List.map_toArray, List.map_cons, List.map_nil, hs, hxe, hr]
 exact h g cap w' q1 q2 q3 q4
theorem wpList_append_r {P : Program} {w : World} {ops : Array Oper} {rest : List Oper} {o : Oper} {a : Act} {Q : Exit → Act → World → Prop} (hgd : o.guard = none) (so xo : Operand) (t : TypeId)
   (ho : o.op = .call { callee := .builtin .append, args := #[so, xo], argTypes := #[t, t] })
   (e : TypeId) (i : TypeInfo) (z : Value) (s bytes : Nat) (ht : P.underlying t = some (.slice e)) (hi : P.info? e = some i) (hz : i.zero = some z)
   (hsize : i.size = s) (hby : i.bytes = bytes) (hzs : z.cells.size = s) (hsz : 0 < s) (base : Nat) (v x : Value) (n m : Nat) (F G : Nat → List Value) (hs : a.eval so = v) (hxe : a.eval xo = x) (hown : OwnR w base e s v n F) (hx : Rl w s x m G) (hm : 0 < m) (hbytes : (n + m) * bytes ≤ 140737488355328) (h63 : n + m ≤ 9223372036854775807) (hbase : base ≤ w.heap.size)
   (h : ∀ g cap w', OwnR w' base e s (.slice (some ⟨g, 0, none⟩) (n + m) cap) (n + m) (catR F n G) → Chg w w' (ob v) → (v.ownBlock = some g ∨ g = w.heap.size) → g < w'.heap.size → wpList P ops Q rest (a.put o.dst (.slice (some ⟨g, 0, none⟩) (n + m) cap)) w') : wpList P ops Q (o :: rest) a w :=
 wpList_plain hgd fun _ hK => wp_append_r so xo t ho e i z s bytes ht hi hz hsize hby hzs hsz base v x n m F G hs hxe hown hx hm hbytes h63 hbase fun g cap w' q1 q2 q3 q4 => hK _ _ (h g cap w' q1 q2 q3 q4)
end Go.Proofs.YtgjclegpnbjlkaaGreatDoor

set_option linter.all false
namespace Go.Proofs.YtgjclegpnbjlkaaGreatDoor
open Go.RowKit
theorem Blk.ne {w : World} {a b : Nat} {C D : Array Value} {T U : TypeId} (h : Blk w a C T) (k : Blk w b D U) (hT : ¬ T = U) : ¬ a = b := by
 intro e
 subst e
 have : (some (Obj.cells C T (0, 0))) = some (Obj.cells D U (0, 0)) := by rw [← h, ← k]
 simp at this
 exact hT this.2
theorem ownsRow_blk {w : World} {base : Nat} {T : TypeId} {s : Nat} {v : Value} {n : Nat} {xs : List Value} (h : w.ownsRow base T s v n xs) {k : Nat} (hk : k ∈ ob v) : ∃ C, Blk w k C T := by
 rcases h.2 with ⟨rfl, _⟩ | ⟨g, cap, cur, rfl, hb, hg, _⟩
 · simp [ob, Value.ownBlock] at hk
 · simp [ob, Value.ownBlock] at hk
   subst hk
   exact ⟨cur, hg⟩
theorem ownR_blk {w : World} {base : Nat} {T : TypeId} {s : Nat} {v : Value} {n : Nat} {F : Nat → List Value} (h : OwnR w base T s v n F) {k : Nat} (hk : k ∈ ob v) : ∃ C, Blk w k C T := ownsRow_blk h.1 hk
theorem ob_slice (g n c : Nat) : ob (.slice (some ⟨g, 0, none⟩) n c) = [g] := rfl
end Go.Proofs.YtgjclegpnbjlkaaGreatDoor
