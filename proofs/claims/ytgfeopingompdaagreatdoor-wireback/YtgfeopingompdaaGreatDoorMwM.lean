/- Joined: W60, W61. -/
import Derived.Test.YtgfeopingompdaaGreatDoorW55
import Derived.Test.YtgfeopingompdaaGreatDoorW40
import Derived.Test.YtgfeopingompdaaGreatDoorW56
import Derived.Test.YtgfeopingompdaaGreatDoorW58
import Derived.Test.YtgfeopingompdaaGreatDoorMwN
/- wire: what is decoded may be, and is encoded to the same bytes. -/
set_option linter.unusedVariables false
set_option linter.unusedSimpArgs false
set_option linter.unnecessarySimpa false
namespace Go.Proofs.YtgfeopingompdaaGreatDoor
open Go.RowKit

theorem catEq {f g H : Nat → Nat} {n k : Nat} (h1 : ∀ i, i < n → f i = H i) (h2 : ∀ i, i < k → g i = H (n + i)) : ∀ i, i < n + k → cat f n g i = H i := fun i hi => by
  unfold cat
  by_cases h : i < n
  · rw [if_pos h]; exact h1 i h
  · rw [if_neg h, h2 _ (by omega), show n + (i - n) = i by omega]
theorem hdEq (F : Nat → Nat) (m : Ms) (h1 : m.ses = fun j => F (10 + j)) (h2 : m.fr = ((F 42 : Nat) : Int)) (h3 : m.to = ((F 43 : Nat) : Int)) : ∀ i, i < 34 → hdB m i = F (10 + i) := by
  refine catEq (n := 32) (k := 2) (H := fun j => F (10 + j)) (fun i _ => by rw [h1]) (fun i hi => ?_)
  rw [h2, h3]
  have hc : i = 0 ∨ i = 1 := by omega
  rcases hc with rfl | rfl
  · show (((F 42 : Nat) : Int)).toNat = F 42; omega
  · show (((F 43 : Nat) : Int)).toNat = F 43; omega
theorem cmEq (F : Nat → Nat) (a : Nat) : ∀ i, i < 65 → cmB (((F a : Nat) : Int)).toNat (fun j => F (a + 1 + j)) (fun j => F (a + 33 + j)) i = F (a + i) := fun i hi => by
  unfold cmB
  by_cases h0 : i = 0
  · subst h0; rw [if_pos rfl]; show _ = F a; omega
  rw [if_neg h0]
  by_cases h1 : i < 33
  · rw [if_pos h1]
    show F (a + 1 + (i - 1)) = F (a + i)
    rw [show a + 1 + (i - 1) = a + i by omega]
  · rw [if_neg h1]
    show F (a + 33 + (i - 33)) = F (a + i)
    rw [show a + 33 + (i - 33) = a + i by omega]
theorem b4Eq (F : Nat → Nat) (a : Nat) (hF : ∀ j, j < 4 → F (a + j) < 256) : ∀ j, j < 4 → b4 (nm F a 4) j = F (a + j) := fun j hj => by
  have e : nm F a 4 = (((0 * 256 + F (a + 0)) * 256 + F (a + 1)) * 256 + F (a + 2)) * 256 + F (a + 3) := rfl
  have q0 := hF 0 (by omega)
  have q1 := hF 1 (by omega)
  have q2 := hF 2 (by omega)
  have q3 := hF 3 (by omega)
  have hc : j = 0 ∨ j = 1 ∨ j = 2 ∨ j = 3 := by omega
  rcases hc with rfl | rfl | rfl | rfl
  · rw [show b4 (nm F a 4) 0 = nm F a 4 / 16777216 % 256 from rfl, e]; omega
  · rw [show b4 (nm F a 4) 1 = nm F a 4 / 65536 % 256 from rfl, e]; omega
  · rw [show b4 (nm F a 4) 2 = nm F a 4 / 256 % 256 from rfl, e]; omega
  · rw [show b4 (nm F a 4) 3 = nm F a 4 % 256 from rfl, e]; omega
/-- A frame's bytes out of its body's. -/
theorem frEq (n k : Nat) (F f : Nat → Nat) (hF : ∀ i, i < n → F i < 256) (hG : HdG n F) (hn : n = 14 + nm F 6 4) (hs : eqnW 4 (sha F (10 + nm F 6 4)) (fun j => F (10 + nm F 6 4 + j)) = true) (hk : k = F 5) (hb : ∀ j, j < nm F 6 4 → f j = F (10 + j)) :
    ∀ i, i < n → frB k (nm F 6 4) f i = F i := by
  obtain ⟨L, hL⟩ : ∃ L, nm F 6 4 = L := ⟨_, rfl⟩
  have B4 := b4Eq F 6 (fun j hj => hF _ (by omega))
  rw [hL] at hn hs hb B4 ⊢
  obtain ⟨g1, g2, g3, _, _⟩ := hG
  have hh : ∀ i, i < 10 → heB k L i = F i := by
    refine catEq (n := 4 + 2) (k := 4) (catEq (n := 4) (k := 2) (fun i hi => ?_) (fun i hi => ?_)) (fun i hi => B4 i hi)
    · rw [g1 i hi]
      have hc : i = 0 ∨ i = 1 ∨ i = 2 ∨ i = 3 := by omega
      rcases hc with rfl | rfl | rfl | rfl <;> rfl
    · have hc : i = 0 ∨ i = 1 := by omega
      rcases hc with rfl | rfl
      · rw [g2]; rfl
      · rw [hk]; rfl
  have hw : ∀ i, i < 10 + L → fwB k L f i = F i := catEq (n := 4 + 2 + 4) (k := L) hh (fun i hi => hb i hi)
  intro i hi
  by_cases h1 : i < 10 + L
  · rw [frB_lo _ _ _ _ h1]; exact hw i h1
  · obtain ⟨j, rfl⟩ : ∃ j, i = 10 + L + j := ⟨i - (10 + L), by omega⟩
    rw [frB_hi, sha_congr hw]
    exact (eqnW_iff _ _ _).1 hs j (by omega)
theorem bd_1 (A : Nat) (F : Nat → Nat) (h : bdW A F 1 = none) : A = 44 := by
  unfold bdW tlW at h
  by_cases c1 : A < 42
  · rw [if_pos c1] at h; cases h
  rw [if_neg c1] at h
  by_cases c2 : A < 43
  · rw [if_pos c2] at h; cases h
  rw [if_neg c2] at h
  by_cases c3 : A < 44
  · rw [if_pos c3] at h; cases h
  rw [if_neg c3] at h
  rw [if_pos rfl] at h
  by_cases c4 : 44 < A
  · rw [if_pos c4] at h; cases h
  rw [if_neg c4] at h
  omega
theorem bd_2 (A : Nat) (F : Nat → Nat) (h : bdW A F 2 = none) : A = 109 ∧ F 44 ≠ 0 := by
  unfold bdW tlW at h
  by_cases c1 : A < 42
  · rw [if_pos c1] at h; cases h
  rw [if_neg c1] at h
  by_cases c2 : A < 43
  · rw [if_pos c2] at h; cases h
  rw [if_neg c2] at h
  by_cases c3 : A < 44
  · rw [if_pos c3] at h; cases h
  rw [if_neg c3] at h
  rw [if_neg (by decide : ¬ 2 = 1)] at h
  rw [if_pos rfl] at h
  by_cases c4 : prW A 44 (F 44) ≠ 0
  · rw [if_pos c4] at h; cases h
  rw [if_neg c4] at h
  by_cases c5 : 109 < A
  · rw [if_pos c5] at h; cases h
  rw [if_neg c5] at h
  have p : prW A 44 (F 44) = 0 := Classical.not_not.1 c4
  unfold prW at p
  by_cases p1 : A < 44 + 65
  · rw [if_pos p1] at p; cases p
  rw [if_neg p1] at p
  by_cases p2 : F 44 = 0
  · rw [if_pos p2] at p; cases p
  exact ⟨by omega, p2⟩
theorem bd_4 (A : Nat) (F : Nat → Nat) (h : bdW A F 4 = none) : A = 173 ∧ F 44 ≠ 0 := by
  unfold bdW tlW at h
  by_cases c1 : A < 42
  · rw [if_pos c1] at h; cases h
  rw [if_neg c1] at h
  by_cases c2 : A < 43
  · rw [if_pos c2] at h; cases h
  rw [if_neg c2] at h
  by_cases c3 : A < 44
  · rw [if_pos c3] at h; cases h
  rw [if_neg c3] at h
  rw [if_neg (by decide : ¬ 4 = 1)] at h
  rw [if_neg (by decide : ¬ 4 = 2)] at h
  rw [if_pos rfl] at h
  by_cases c4 : prW A 44 (F 44) ≠ 0
  · rw [if_pos c4] at h; cases h
  rw [if_neg c4] at h
  by_cases c5 : A < 141
  · rw [if_pos c5] at h; cases h
  rw [if_neg c5] at h
  by_cases c6 : A < 173
  · rw [if_pos c6] at h; cases h
  rw [if_neg c6] at h
  by_cases c7 : 173 < A
  · rw [if_pos c7] at h; cases h
  rw [if_neg c7] at h
  have p : prW A 44 (F 44) = 0 := Classical.not_not.1 c4
  unfold prW at p
  by_cases p1 : A < 44 + 65
  · rw [if_pos p1] at p; cases p
  rw [if_neg p1] at p
  by_cases p2 : F 44 = 0
  · rw [if_pos p2] at p; cases p
  exact ⟨by omega, p2⟩
theorem bd_5 (A : Nat) (F : Nat → Nat) (h : bdW A F 5 = none) : A = 46 ∧ nm F 44 2 ≠ 0 := by
  unfold bdW tlW at h
  by_cases c1 : A < 42
  · rw [if_pos c1] at h; cases h
  rw [if_neg c1] at h
  by_cases c2 : A < 43
  · rw [if_pos c2] at h; cases h
  rw [if_neg c2] at h
  by_cases c3 : A < 44
  · rw [if_pos c3] at h; cases h
  rw [if_neg c3] at h
  rw [if_neg (by decide : ¬ 5 = 1)] at h
  rw [if_neg (by decide : ¬ 5 = 2)] at h
  rw [if_neg (by decide : ¬ 5 = 4)] at h
  rw [if_pos rfl] at h
  by_cases c4 : A < 46
  · rw [if_pos c4] at h; cases h
  rw [if_neg c4] at h
  by_cases c5 : nm F 44 2 = 0
  · rw [if_pos c5] at h; cases h
  rw [if_neg c5] at h
  by_cases c6 : 46 < A
  · rw [if_pos c6] at h; cases h
  rw [if_neg c6] at h
  exact ⟨by omega, c5⟩
theorem bd_6 (A : Nat) (F : Nat → Nat) (h : bdW A F 6 = none) : A = 108 := by
  unfold bdW tlW at h
  by_cases c1 : A < 42
  · rw [if_pos c1] at h; cases h
  rw [if_neg c1] at h
  by_cases c2 : A < 43
  · rw [if_pos c2] at h; cases h
  rw [if_neg c2] at h
  by_cases c3 : A < 44
  · rw [if_pos c3] at h; cases h
  rw [if_neg c3] at h
  rw [if_neg (by decide : ¬ 6 = 1)] at h
  rw [if_neg (by decide : ¬ 6 = 2)] at h
  rw [if_neg (by decide : ¬ 6 = 4)] at h
  rw [if_neg (by decide : ¬ 6 = 5)] at h
  by_cases c4 : A < 108
  · rw [if_pos c4] at h; cases h
  rw [if_neg c4] at h
  by_cases c5 : 108 < A
  · rw [if_pos c5] at h; cases h
  rw [if_neg c5] at h
  omega
/-- What a decoded message is. -/
def BkE (n : Nat) (F : Nat → Nat) (M : Ms) (N : Nat) (d : Nat → Int) (h b : Nat → Nat → Nat) (T : Nat) (ft : Nat → Nat) : Prop :=
  EnG M N d T ∧ MsB M ∧ n = 14 + enN M N T ∧ (∀ i, i < n → frB M.kind.toNat (enN M N T) (enF M N d h b T ft) i = F i) ∧ eqM M N d h b T ft (usM M) (uK M N) d h b (uK M T) ft = true
def d0 : Nat → Int := fun _ => 0
def h0 : Nat → Nat → Nat := fun _ _ => 0
def t0 : Nat → Nat := fun _ => 0
theorem bk_1 (n : Nat) (F : Nat → Nat) (hF : ∀ i, i < n → F i < 256) (hG : HdG n F) (hn : n = 14 + nm F 6 4) (hs : eqnW 4 (sha F (10 + nm F 6 4)) (fun j => F (10 + nm F 6 4 + j)) = true) (hK : F 5 = 1) (hbd : bdW (10 + nm F 6 4) F 1 = none) :
    BkE n F (rdM F 1) 0 d0 h0 h0 0 t0 := by
  obtain hA := bd_1 _ F hbd
  obtain ⟨m, hm⟩ : ∃ m : Ms, m = rd0 F 1 := ⟨_, rfl⟩
  have hr : rdM F 1 = m := hm.symm
  rw [hr]
  have km : m.kind = 1 := by rw [hm]; rfl
  have hd := hdEq F m (by rw [hm]; rfl) (by rw [hm]; rfl) (by rw [hm]; rfl)
  have e1 : enN m 0 0 = 34 := by unfold enN; rw [if_pos km]
  have e2 : enF m 0 d0 h0 h0 0 t0 = hdB m := by unfold enF; rw [if_pos km]
  have eN : enN m 0 0 = nm F 6 4 := by omega
  have hb : ∀ j, j < nm F 6 4 → enF m 0 d0 h0 h0 0 t0 j = F (10 + j) := by
    rw [← eN, e1, e2]
    exact hd
  have q42 := hF 42 (by omega)
  have q43 := hF 43 (by omega)
  refine ⟨⟨by rw [km]; unfold okKind; omega, by rw [hm]; show okPt ((F 42 : Nat) : Int); unfold okPt; omega, by rw [hm]; show okPt ((F 43 : Nat) : Int); unfold okPt; omega, fun q => by rw [km] at q; omega, fun q => by rw [km] at q; omega, fun q => by rw [km] at q; omega⟩,
    ⟨fun i hi => by rw [hm]; exact hF _ (by omega), fun i hi => by rw [hm]; show 0 < 256; omega, fun i hi => by rw [hm]; show 0 < 256; omega, fun i hi => by rw [hm]; show 0 < 256; omega, fun i hi => by rw [hm]; show 0 < 256; omega, fun i hi => by rw [hm]; show 0 < 256; omega⟩, by omega, ?_, ?_⟩
  · rw [eN]
    exact frEq n _ F _ hF hG hn hs (by rw [km, hK]; rfl) hb
  · rw [us_1 km, show uK m 0 = 0 from if_neg (by omega)]
    subst hm
    exact (eqM_iff _ _ _ _ _ _ _ _ _ _ _ _ _ _).2 ⟨beq_iff_eq.2 rfl, (eqnW_iff 32 _ _).2 (fun _ _ => rfl), beq_iff_eq.2 rfl, beq_iff_eq.2 rfl, (eqCm_iff _ _ _ _ _ _).2 ⟨rfl, fun _ _ => rfl, fun _ _ => rfl⟩, (eqCl_iff _ _ _ _ _ _ _ _).2 ⟨rfl, fun i hi => by omega⟩, (eqB_iff _ _ _ _).2 ⟨rfl, fun i hi => by omega⟩, (eqnW_iff 32 _ _).2 (fun _ _ => rfl), (eqnW_iff 32 _ _).2 (fun _ _ => rfl), (eqnW_iff 64 _ _).2 (fun _ _ => rfl), beq_iff_eq.2 rfl⟩
theorem bk_2 (n : Nat) (F : Nat → Nat) (hF : ∀ i, i < n → F i < 256) (hG : HdG n F) (hn : n = 14 + nm F 6 4) (hs : eqnW 4 (sha F (10 + nm F 6 4)) (fun j => F (10 + nm F 6 4 + j)) = true) (hK : F 5 = 2) (hbd : bdW (10 + nm F 6 4) F 2 = none) :
    BkE n F (rdM F 2) 0 d0 h0 h0 0 t0 := by
  obtain ⟨hA, h44⟩ := bd_2 _ F hbd
  obtain ⟨m, hm⟩ : ∃ m : Ms, m = { rd0 F 2 with id := ((F 44 : Nat) : Int), hid := fun j => F (44 + 1 + j), bnd := fun j => F (44 + 33 + j) } := ⟨_, rfl⟩
  have hr : rdM F 2 = m := hm.symm
  rw [hr]
  have km : m.kind = 2 := by rw [hm]; rfl
  have hd := hdEq F m (by rw [hm]; rfl) (by rw [hm]; rfl) (by rw [hm]; rfl)
  have e1 : enN m 0 0 = 34 + 65 := by unfold enN; rw [if_neg (by omega), if_pos km]
  have e2 : enF m 0 d0 h0 h0 0 t0 = cat (hdB m) 34 (cmB m.id.toNat m.hid m.bnd) := by unfold enF; rw [if_neg (by omega), if_pos km]
  have eN : enN m 0 0 = nm F 6 4 := by omega
  have hb : ∀ j, j < nm F 6 4 → enF m 0 d0 h0 h0 0 t0 j = F (10 + j) := by
    rw [← eN, e1, e2]
    exact catEq (n := 34) (k := 65) (H := fun j => F (10 + j)) hd (fun i hi => by rw [hm]; show cmB _ _ _ i = F (10 + (34 + i)); rw [show 10 + (34 + i) = 44 + i by omega]; exact cmEq F 44 i hi)
  have q42 := hF 42 (by omega)
  have q43 := hF 43 (by omega)
  refine ⟨⟨by rw [km]; unfold okKind; omega, by rw [hm]; show okPt ((F 42 : Nat) : Int); unfold okPt; omega, by rw [hm]; show okPt ((F 43 : Nat) : Int); unfold okPt; omega, fun _ => by rw [hm]; show okID ((F 44 : Nat) : Int); unfold okID; have := hF 44 (by omega); omega, fun q => by rw [km] at q; omega, fun q => by rw [km] at q; omega⟩,
    ⟨fun i hi => by rw [hm]; exact hF _ (by omega), fun i hi => by rw [hm]; exact hF _ (by omega), fun i hi => by rw [hm]; exact hF _ (by omega), fun i hi => by rw [hm]; show 0 < 256; omega, fun i hi => by rw [hm]; show 0 < 256; omega, fun i hi => by rw [hm]; show 0 < 256; omega⟩, by omega, ?_, ?_⟩
  · rw [eN]
    exact frEq n _ F _ hF hG hn hs (by rw [km, hK]; rfl) hb
  · rw [us_2 km, show uK m 0 = 0 from if_neg (by omega)]
    subst hm
    exact (eqM_iff _ _ _ _ _ _ _ _ _ _ _ _ _ _).2 ⟨beq_iff_eq.2 rfl, (eqnW_iff 32 _ _).2 (fun _ _ => rfl), beq_iff_eq.2 rfl, beq_iff_eq.2 rfl, (eqCm_iff _ _ _ _ _ _).2 ⟨rfl, fun _ _ => rfl, fun _ _ => rfl⟩, (eqCl_iff _ _ _ _ _ _ _ _).2 ⟨rfl, fun i hi => by omega⟩, (eqB_iff _ _ _ _).2 ⟨rfl, fun i hi => by omega⟩, (eqnW_iff 32 _ _).2 (fun _ _ => rfl), (eqnW_iff 32 _ _).2 (fun _ _ => rfl), (eqnW_iff 64 _ _).2 (fun _ _ => rfl), beq_iff_eq.2 rfl⟩
theorem bk_4 (n : Nat) (F : Nat → Nat) (hF : ∀ i, i < n → F i < 256) (hG : HdG n F) (hn : n = 14 + nm F 6 4) (hs : eqnW 4 (sha F (10 + nm F 6 4)) (fun j => F (10 + nm F 6 4 + j)) = true) (hK : F 5 = 4) (hbd : bdW (10 + nm F 6 4) F 4 = none) :
    BkE n F (rdM F 4) 0 d0 h0 h0 0 t0 := by
  obtain ⟨hA, h44⟩ := bd_4 _ F hbd
  obtain ⟨m, hm⟩ : ∃ m : Ms, m = { rd0 F 4 with id := ((F 44 : Nat) : Int), hid := fun j => F (44 + 1 + j), bnd := fun j => F (44 + 33 + j), bind := fun j => F (109 + j), share := fun j => F (141 + j) } := ⟨_, rfl⟩
  have hr : rdM F 4 = m := hm.symm
  rw [hr]
  have km : m.kind = 4 := by rw [hm]; rfl
  have hd := hdEq F m (by rw [hm]; rfl) (by rw [hm]; rfl) (by rw [hm]; rfl)
  have e1 : enN m 0 0 = 34 + 65 + 32 + 32 := by unfold enN; rw [if_neg (by omega), if_neg (by omega), if_neg (by omega), if_pos km]
  have e2 : enF m 0 d0 h0 h0 0 t0 = cat (cat (cat (hdB m) 34 (cmB m.id.toNat m.hid m.bnd)) (34 + 65) m.bind) (34 + 65 + 32) m.share := by unfold enF; rw [if_neg (by omega), if_neg (by omega), if_neg (by omega), if_pos km]
  have eN : enN m 0 0 = nm F 6 4 := by omega
  have hb : ∀ j, j < nm F 6 4 → enF m 0 d0 h0 h0 0 t0 j = F (10 + j) := by
    rw [← eN, e1, e2]
    exact catEq (n := 34 + 65 + 32) (k := 32) (H := fun j => F (10 + j)) (catEq (n := 34 + 65) (k := 32) (H := fun j => F (10 + j)) (catEq (n := 34) (k := 65) (H := fun j => F (10 + j)) hd (fun i hi => by rw [hm]; show cmB _ _ _ i = F (10 + (34 + i)); rw [show 10 + (34 + i) = 44 + i by omega]; exact cmEq F 44 i hi)) (fun i hi => by rw [hm]; show F (109 + i) = F (10 + (34 + 65 + i)); congr 1; omega)) (fun i hi => by rw [hm]; show F (141 + i) = F (10 + (34 + 65 + 32 + i)); congr 1; omega)
  have q42 := hF 42 (by omega)
  have q43 := hF 43 (by omega)
  refine ⟨⟨by rw [km]; unfold okKind; omega, by rw [hm]; show okPt ((F 42 : Nat) : Int); unfold okPt; omega, by rw [hm]; show okPt ((F 43 : Nat) : Int); unfold okPt; omega, fun _ => by rw [hm]; show okID ((F 44 : Nat) : Int); unfold okID; have := hF 44 (by omega); omega, fun q => by rw [km] at q; omega, fun q => by rw [km] at q; omega⟩,
    ⟨fun i hi => by rw [hm]; exact hF _ (by omega), fun i hi => by rw [hm]; exact hF _ (by omega), fun i hi => by rw [hm]; exact hF _ (by omega), fun i hi => by rw [hm]; exact hF _ (by omega), fun i hi => by rw [hm]; exact hF _ (by omega), fun i hi => by rw [hm]; show 0 < 256; omega⟩, by omega, ?_, ?_⟩
  · rw [eN]
    exact frEq n _ F _ hF hG hn hs (by rw [km, hK]; rfl) hb
  · rw [us_4 km, show uK m 0 = 0 from if_neg (by omega)]
    subst hm
    exact (eqM_iff _ _ _ _ _ _ _ _ _ _ _ _ _ _).2 ⟨beq_iff_eq.2 rfl, (eqnW_iff 32 _ _).2 (fun _ _ => rfl), beq_iff_eq.2 rfl, beq_iff_eq.2 rfl, (eqCm_iff _ _ _ _ _ _).2 ⟨rfl, fun _ _ => rfl, fun _ _ => rfl⟩, (eqCl_iff _ _ _ _ _ _ _ _).2 ⟨rfl, fun i hi => by omega⟩, (eqB_iff _ _ _ _).2 ⟨rfl, fun i hi => by omega⟩, (eqnW_iff 32 _ _).2 (fun _ _ => rfl), (eqnW_iff 32 _ _).2 (fun _ _ => rfl), (eqnW_iff 64 _ _).2 (fun _ _ => rfl), beq_iff_eq.2 rfl⟩
theorem bk_5 (n : Nat) (F : Nat → Nat) (hF : ∀ i, i < n → F i < 256) (hG : HdG n F) (hn : n = 14 + nm F 6 4) (hs : eqnW 4 (sha F (10 + nm F 6 4)) (fun j => F (10 + nm F 6 4 + j)) = true) (hK : F 5 = 5) (hbd : bdW (10 + nm F 6 4) F 5 = none) :
    BkE n F (rdM F 5) 0 d0 h0 h0 0 t0 := by
  obtain ⟨hA, h44⟩ := bd_5 _ F hbd
  obtain ⟨m, hm⟩ : ∃ m : Ms, m = { rd0 F 5 with code := ((nm F 44 2 : Nat) : Int) } := ⟨_, rfl⟩
  have hr : rdM F 5 = m := hm.symm
  rw [hr]
  have km : m.kind = 5 := by rw [hm]; rfl
  have hd := hdEq F m (by rw [hm]; rfl) (by rw [hm]; rfl) (by rw [hm]; rfl)
  have e1 : enN m 0 0 = 34 + 2 := by unfold enN; rw [if_neg (by omega), if_neg (by omega), if_neg (by omega), if_neg (by omega), if_pos km]
  have e2 : enF m 0 d0 h0 h0 0 t0 = cat (hdB m) 34 (b2 m.code.toNat) := by unfold enF; rw [if_neg (by omega), if_neg (by omega), if_neg (by omega), if_neg (by omega), if_pos km]
  have eN : enN m 0 0 = nm F 6 4 := by omega
  have hb : ∀ j, j < nm F 6 4 → enF m 0 d0 h0 h0 0 t0 j = F (10 + j) := by
    rw [← eN, e1, e2]
    exact catEq (n := 34) (k := 2) (H := fun j => F (10 + j)) hd (fun i hi => by
      rw [hm]
      show b2 (((nm F 44 2 : Nat) : Int)).toNat i = F (10 + (34 + i))
      have e : nm F 44 2 = (0 * 256 + F 44) * 256 + F 45 := rfl
      have q0 := hF 44 (by omega)
      have q1 := hF 45 (by omega)
      have hc : i = 0 ∨ i = 1 := by omega
      rcases hc with rfl | rfl
      · show (((nm F 44 2 : Nat) : Int)).toNat / 256 % 256 = F 44
        rw [e]; omega
      · show (((nm F 44 2 : Nat) : Int)).toNat % 256 = F 45
        rw [e]; omega)
  have q42 := hF 42 (by omega)
  have q43 := hF 43 (by omega)
  refine ⟨⟨by rw [km]; unfold okKind; omega, by rw [hm]; show okPt ((F 42 : Nat) : Int); unfold okPt; omega, by rw [hm]; show okPt ((F 43 : Nat) : Int); unfold okPt; omega, fun q => by rw [km] at q; omega, fun q => by rw [km] at q; omega, fun _ => by rw [hm]; show okCode ((nm F 44 2 : Nat) : Int); unfold okCode; have e : nm F 44 2 = (0 * 256 + F 44) * 256 + F 45 := rfl; have q0 := hF 44 (by omega); have q1 := hF 45 (by omega); omega⟩,
    ⟨fun i hi => by rw [hm]; exact hF _ (by omega), fun i hi => by rw [hm]; show 0 < 256; omega, fun i hi => by rw [hm]; show 0 < 256; omega, fun i hi => by rw [hm]; show 0 < 256; omega, fun i hi => by rw [hm]; show 0 < 256; omega, fun i hi => by rw [hm]; show 0 < 256; omega⟩, by omega, ?_, ?_⟩
  · rw [eN]
    exact frEq n _ F _ hF hG hn hs (by rw [km, hK]; rfl) hb
  · rw [us_5 km, show uK m 0 = 0 from if_neg (by omega)]
    subst hm
    exact (eqM_iff _ _ _ _ _ _ _ _ _ _ _ _ _ _).2 ⟨beq_iff_eq.2 rfl, (eqnW_iff 32 _ _).2 (fun _ _ => rfl), beq_iff_eq.2 rfl, beq_iff_eq.2 rfl, (eqCm_iff _ _ _ _ _ _).2 ⟨rfl, fun _ _ => rfl, fun _ _ => rfl⟩, (eqCl_iff _ _ _ _ _ _ _ _).2 ⟨rfl, fun i hi => by omega⟩, (eqB_iff _ _ _ _).2 ⟨rfl, fun i hi => by omega⟩, (eqnW_iff 32 _ _).2 (fun _ _ => rfl), (eqnW_iff 32 _ _).2 (fun _ _ => rfl), (eqnW_iff 64 _ _).2 (fun _ _ => rfl), beq_iff_eq.2 rfl⟩
theorem bk_6 (n : Nat) (F : Nat → Nat) (hF : ∀ i, i < n → F i < 256) (hG : HdG n F) (hn : n = 14 + nm F 6 4) (hs : eqnW 4 (sha F (10 + nm F 6 4)) (fun j => F (10 + nm F 6 4 + j)) = true) (hK : F 5 = 6) (hbd : bdW (10 + nm F 6 4) F 6 = none) :
    BkE n F (rdM F 6) 0 d0 h0 h0 0 t0 := by
  obtain hA := bd_6 _ F hbd
  obtain ⟨m, hm⟩ : ∃ m : Ms, m = { rd0 F 6 with sig := fun j => F (44 + j) } := ⟨_, rfl⟩
  have hr : rdM F 6 = m := hm.symm
  rw [hr]
  have km : m.kind = 6 := by rw [hm]; rfl
  have hd := hdEq F m (by rw [hm]; rfl) (by rw [hm]; rfl) (by rw [hm]; rfl)
  have e1 : enN m 0 0 = 34 + 64 := by unfold enN; rw [if_neg (by omega), if_neg (by omega), if_neg (by omega), if_neg (by omega), if_neg (by omega)]
  have e2 : enF m 0 d0 h0 h0 0 t0 = cat (hdB m) 34 m.sig := by unfold enF; rw [if_neg (by omega), if_neg (by omega), if_neg (by omega), if_neg (by omega), if_neg (by omega)]
  have eN : enN m 0 0 = nm F 6 4 := by omega
  have hb : ∀ j, j < nm F 6 4 → enF m 0 d0 h0 h0 0 t0 j = F (10 + j) := by
    rw [← eN, e1, e2]
    exact catEq (n := 34) (k := 64) (H := fun j => F (10 + j)) hd (fun i hi => by rw [hm]; show F (44 + i) = F (10 + (34 + i)); congr 1; omega)
  have q42 := hF 42 (by omega)
  have q43 := hF 43 (by omega)
  refine ⟨⟨by rw [km]; unfold okKind; omega, by rw [hm]; show okPt ((F 42 : Nat) : Int); unfold okPt; omega, by rw [hm]; show okPt ((F 43 : Nat) : Int); unfold okPt; omega, fun q => by rw [km] at q; omega, fun q => by rw [km] at q; omega, fun q => by rw [km] at q; omega⟩,
    ⟨fun i hi => by rw [hm]; exact hF _ (by omega), fun i hi => by rw [hm]; show 0 < 256; omega, fun i hi => by rw [hm]; show 0 < 256; omega, fun i hi => by rw [hm]; show 0 < 256; omega, fun i hi => by rw [hm]; show 0 < 256; omega, fun i hi => by rw [hm]; exact hF _ (by omega)⟩, by omega, ?_, ?_⟩
  · rw [eN]
    exact frEq n _ F _ hF hG hn hs (by rw [km, hK]; rfl) hb
  · rw [us_6 km, show uK m 0 = 0 from if_neg (by omega)]
    subst hm
    exact (eqM_iff _ _ _ _ _ _ _ _ _ _ _ _ _ _).2 ⟨beq_iff_eq.2 rfl, (eqnW_iff 32 _ _).2 (fun _ _ => rfl), beq_iff_eq.2 rfl, beq_iff_eq.2 rfl, (eqCm_iff _ _ _ _ _ _).2 ⟨rfl, fun _ _ => rfl, fun _ _ => rfl⟩, (eqCl_iff _ _ _ _ _ _ _ _).2 ⟨rfl, fun i hi => by omega⟩, (eqB_iff _ _ _ _).2 ⟨rfl, fun i hi => by omega⟩, (eqnW_iff 32 _ _).2 (fun _ _ => rfl), (eqnW_iff 32 _ _).2 (fun _ _ => rfl), (eqnW_iff 64 _ _).2 (fun _ _ => rfl), beq_iff_eq.2 rfl⟩
theorem bk_3 (n : Nat) (F : Nat → Nat) (vl vt : Value) (hF : ∀ i, i < n → F i < 256) (hG : HdG n F) (hn : n = 14 + nm F 6 4) (hs : eqnW 4 (sha F (10 + nm F 6 4)) (fun j => F (10 + nm F 6 4 + j)) = true) (hK : F 5 = 3) (hp : Pk3 (10 + nm F 6 4) F) :
    BkE n F { rd0 F 3 with list := vl, text := vt } (F 44) (fun i => ((F (45 + 65 * i) : Nat) : Int)) (fun i j => F (45 + 65 * i + 1 + j)) (fun i j => F (45 + 65 * i + 33 + j)) (nm F (45 + 65 * F 44) 4) (fun j => F (45 + 65 * F 44 + 4 + j)) := by
  obtain ⟨⟨p1, p2⟩, p3, p4⟩ := hp
  obtain ⟨m, hm⟩ : ∃ m : Ms, m = { rd0 F 3 with list := vl, text := vt } := ⟨_, rfl⟩
  rw [← hm]
  have km : m.kind = 3 := by rw [hm]; rfl
  have hd := hdEq F m (by rw [hm]; rfl) (by rw [hm]; rfl) (by rw [hm]; rfl)
  obtain ⟨N, hN⟩ : ∃ N, F 44 = N := ⟨_, rfl⟩
  have B4 := b4Eq F (45 + 65 * N) (fun j hj => hF _ (by omega))
  obtain ⟨T, hT⟩ : ∃ T, nm F (45 + 65 * N) 4 = T := ⟨_, rfl⟩
  rw [hN] at p2 p3 p4 ⊢
  rw [hT] at p3 p4 B4 ⊢
  have e1 : enN m N T = 34 + (1 + 65 * N) + (4 + T) := by unfold enN; rw [if_neg (by omega), if_neg (by omega), if_pos km]
  have eN : enN m N T = nm F 6 4 := by omega
  have hb : ∀ j, j < nm F 6 4 → enF m N (fun i => ((F (45 + 65 * i) : Nat) : Int)) (fun i j => F (45 + 65 * i + 1 + j)) (fun i j => F (45 + 65 * i + 33 + j)) T (fun j => F (45 + 65 * N + 4 + j)) j = F (10 + j) := by
    rw [← eN, e1, show enF m N (fun i => ((F (45 + 65 * i) : Nat) : Int)) (fun i j => F (45 + 65 * i + 1 + j)) (fun i j => F (45 + 65 * i + 33 + j)) T (fun j => F (45 + 65 * N + 4 + j)) = cat (hdB m) 34 (pkB N (fun i => ((F (45 + 65 * i) : Nat) : Int)) (fun i j => F (45 + 65 * i + 1 + j)) (fun i j => F (45 + 65 * i + 33 + j)) T (fun j => F (45 + 65 * N + 4 + j))) from by unfold enF; rw [if_neg (by omega), if_neg (by omega), if_pos km]]
    intro j hj
    refine catEq (n := 34) (k := 1 + 65 * N + (4 + T)) (H := fun j => F (10 + j)) hd ?_ j (by omega)
    refine catEq (n := 1 + 65 * N) (k := 4 + T) (H := fun i => F (10 + (34 + i))) (catEq (n := 1) (k := 65 * N) (H := fun i => F (10 + (34 + i))) (fun i hi => ?_) (fun i hi => ?_)) (catEq (n := 4) (k := T) (H := fun i => F (10 + (34 + (1 + 65 * N + i)))) (fun i hi => ?_) (fun i hi => ?_))
    · obtain rfl : i = 0 := by omega
      exact hN.symm
    · have q := cmEq F (45 + 65 * (i / 65)) (i % 65) (by omega)
      rw [show 45 + 65 * (i / 65) + i % 65 = 10 + (34 + (1 + i)) by omega] at q
      exact q
    · rw [B4 i hi]
      show F (45 + 65 * N + i) = F (10 + (34 + (1 + 65 * N + i)))
      congr 1; omega
    · show F (45 + 65 * N + 4 + i) = F (10 + (34 + (1 + 65 * N + (4 + i))))
      congr 1; omega
  have q42 := hF 42 (by omega)
  have q43 := hF 43 (by omega)
  have q44 := hF 44 (by omega)
  have z0 : ∀ k : Nat, ∀ i, i < k → (fun _ : Nat => 0) i < 256 := fun k i hi => by show 0 < 256; omega
  refine ⟨⟨by rw [km]; unfold okKind; omega, by rw [hm]; show okPt ((F 42 : Nat) : Int); unfold okPt; omega, by rw [hm]; show okPt ((F 43 : Nat) : Int); unfold okPt; omega, fun q => by omega, fun _ => ⟨by omega, fun i hi => ?_, p3⟩, fun q => by omega⟩,
    ⟨fun i hi => by rw [hm]; exact hF _ (by omega), fun i hi => by rw [hm]; exact z0 32 i hi, fun i hi => by rw [hm]; exact z0 32 i hi, fun i hi => by rw [hm]; exact z0 32 i hi, fun i hi => by rw [hm]; exact z0 32 i hi, fun i hi => by rw [hm]; exact z0 64 i hi⟩, by omega, ?_, ?_⟩
  · have p := p2 i hi
    unfold prW at p
    by_cases c1 : 10 + nm F 6 4 < 45 + 65 * i + 65
    · rw [if_pos c1] at p; cases p
    rw [if_neg c1] at p
    by_cases c2 : F (45 + 65 * i) = 0
    · rw [if_pos c2] at p; cases p
    have := hF (45 + 65 * i) (by omega)
    show okID ((F (45 + 65 * i) : Nat) : Int)
    unfold okID
    omega
  · rw [eN]
    exact frEq n _ F _ hF hG hn hs (by rw [km, hK]; rfl) hb
  · rw [us_3 km, show uK m N = N from if_pos km, show uK m T = T from if_pos km]
    subst hm
    exact (eqM_iff _ _ _ _ _ _ _ _ _ _ _ _ _ _).2 ⟨beq_iff_eq.2 rfl, (eqnW_iff 32 _ _).2 (fun _ _ => rfl), beq_iff_eq.2 rfl, beq_iff_eq.2 rfl, (eqCm_iff _ _ _ _ _ _).2 ⟨rfl, fun _ _ => rfl, fun _ _ => rfl⟩, (eqCl_iff _ _ _ _ _ _ _ _).2 ⟨rfl, fun i _ => (eqCm_iff _ _ _ _ _ _).2 ⟨rfl, fun _ _ => rfl, fun _ _ => rfl⟩⟩, (eqB_iff _ _ _ _).2 ⟨rfl, fun _ _ => rfl⟩, (eqnW_iff 32 _ _).2 (fun _ _ => rfl), (eqnW_iff 32 _ _).2 (fun _ _ => rfl), (eqnW_iff 64 _ _).2 (fun _ _ => rfl), beq_iff_eq.2 rfl⟩
/-- What is decoded may be, and is encoded to the same bytes. -/
theorem back_en {n : Nat} {F : Nat → Nat} {B : Nat} {M : Ms} {w : World} (hF : ∀ i, i < n → F i < 256) (q : FrR n F B M w) : ∃ N d h b T ft, BkE n F M N d h b T ft ∧ Cl w M.list N d h b ∧ Sl w M.text T ft := by
  obtain ⟨hG, hn, hs, hB⟩ := q
  have hk := hG.2.2.1
  unfold BdR at hB
  by_cases h3 : F 5 = 3
  · rw [if_pos h3] at hB
    obtain ⟨hp, vl, vt, rfl, hl, ht⟩ := hB
    refine ⟨_, _, _, _, _, _, bk_3 n F vl vt hF hG hn hs h3 hp, ⟨hl.rl, fun j hj i hi => ?_⟩, ht.sl⟩
    have p4 := hp.2.2
    exact ⟨hF _ (by omega), hF _ (by omega)⟩
  · rw [if_neg h3] at hB
    obtain ⟨hb, rfl⟩ := hB
    have fin : ∀ m : Ms, m.list = .slice none 0 0 → m.text = .slice none 0 0 → BkE n F m 0 d0 h0 h0 0 t0 → ∃ N d h b T ft, BkE n F m N d h b T ft ∧ Cl w m.list N d h b ∧ Sl w m.text T ft := fun m e1 e2 q => ⟨0, d0, h0, h0, 0, t0, q, by rw [e1]; exact ⟨⟨cF_ok 0 _ _ _, Or.inl ⟨rfl, rfl⟩⟩, fun i hi => by omega⟩, by rw [e2]; exact Or.inl ⟨rfl, rfl⟩⟩
    have hc : F 5 = 1 ∨ F 5 = 2 ∨ F 5 = 4 ∨ F 5 = 5 ∨ F 5 = 6 := by omega
    rcases hc with h | h | h | h | h
    · rw [h] at hb ⊢; exact fin _ rfl rfl (bk_1 n F hF hG hn hs h hb)
    · rw [h] at hb ⊢; exact fin _ rfl rfl (bk_2 n F hF hG hn hs h hb)
    · rw [h] at hb ⊢; exact fin _ rfl rfl (bk_4 n F hF hG hn hs h hb)
    · rw [h] at hb ⊢; exact fin _ rfl rfl (bk_5 n F hF hG hn hs h hb)
    · rw [h] at hb ⊢; exact fin _ rfl rfl (bk_6 n F hF hG hn hs h hb)
end Go.Proofs.YtgfeopingompdaaGreatDoor

/- wire: the faults are of the page; what is encoded is decoded as what its kind uses. -/
namespace Go.Proofs.YtgfeopingompdaaGreatDoor
open Go.RowKit

theorem ne0 {s : ByteArray} (h : s.data.toList ≠ []) : s.toList ≠ [] := by rw [ByteArray.toList_eq]; exact h
def NmF (s : ByteArray) (y : Nat) : Prop := Nmd y ∧ s.toList ≠ []
theorem prW_nm {n a x : Nat} (h : prW n a x ≠ 0) : Nmd (prW n a x) := by
  unfold prW at h ⊢
  unfold Nmd
  repeat' split at h
  all_goals (repeat' split)
  all_goals omega
theorem bdW_nm {n : Nat} {F : Nat → Nat} {K : Nat} {s : ByteArray} {a y : Nat} (h : bdW n F K = some (s, a, y)) : NmF s y := by
  unfold bdW tlW at h
  repeat' split at h
  all_goals first
    | (cases h; done)
    | (simp only [Option.some.injEq, Prod.mk.injEq] at h; obtain ⟨rfl, _, rfl⟩ := h; exact ⟨by unfold Nmd; omega, ne0 (List.cons_ne_nil _ _)⟩)
    | (rename_i hp; simp only [Option.some.injEq, Prod.mk.injEq] at h; obtain ⟨rfl, _, rfl⟩ := h; exact ⟨prW_nm hp, ne0 (List.cons_ne_nil _ _)⟩)
theorem Bd3_nm {n : Nat} {F : Nat → Nat} {s : ByteArray} {a y : Nat} (h : Bd3 n F s a y) : NmF s y := by
  rcases h with ⟨_, rfl, _, rfl⟩ | ⟨_, _, rfl, _, rfl⟩ | ⟨_, _, rfl, _, rfl⟩ | ⟨_, _, rfl, _, rfl⟩ | ⟨_, j, _, _, hp, rfl, _, rfl⟩ | ⟨_, _, ⟨rfl, _, ⟨_, rfl⟩ | ⟨_, _, rfl⟩ | ⟨_, _, _, rfl⟩⟩ | ⟨_, _, rfl, _, rfl⟩⟩
  case _ => exact ⟨by unfold Nmd; omega, ne0 (List.cons_ne_nil _ _)⟩
  case _ => exact ⟨by unfold Nmd; omega, ne0 (List.cons_ne_nil _ _)⟩
  case _ => exact ⟨by unfold Nmd; omega, ne0 (List.cons_ne_nil _ _)⟩
  case _ => exact ⟨by unfold Nmd; omega, ne0 (List.cons_ne_nil _ _)⟩
  case _ => exact ⟨prW_nm hp, ne0 (List.cons_ne_nil _ _)⟩
  case _ => exact ⟨by unfold Nmd; omega, ne0 (List.cons_ne_nil _ _)⟩
  case _ => exact ⟨by unfold Nmd; omega, ne0 (List.cons_ne_nil _ _)⟩
  case _ => exact ⟨by unfold Nmd; omega, ne0 (List.cons_ne_nil _ _)⟩
  case _ => exact ⟨by unfold Nmd; omega, ne0 (List.cons_ne_nil _ _)⟩
theorem HdP_nm {n : Nat} {F : Nat → Nat} {s : ByteArray} {a y : Nat} (h : HdP n F s a y) : NmF s y := by
  rcases h with ⟨i, _, _, ⟨_, rfl, _, rfl⟩ | ⟨_, _, rfl, _, rfl⟩⟩ | ⟨_, ⟨_, rfl, _, rfl⟩ | ⟨_, _, rfl, _, rfl⟩ | ⟨_, ⟨_, rfl, _, rfl⟩ | ⟨_, _, rfl, _, rfl⟩ | ⟨_, ⟨_, _, rfl, _, rfl⟩ | ⟨_, _, rfl, _, rfl⟩⟩⟩⟩
  all_goals exact ⟨by unfold Nmd; omega, ne0 (List.cons_ne_nil _ _)⟩
theorem FrP_nm {n : Nat} {F : Nat → Nat} {s : ByteArray} {a y : Nat} (h : FrP n F s a y) : NmF s y := by
  rcases h with h | ⟨_, ⟨_, rfl, _, rfl⟩ | ⟨_, rfl, _, rfl⟩ | ⟨_, ⟨_, rfl, _, rfl⟩ | ⟨_, h⟩⟩⟩
  · exact HdP_nm h
  · exact ⟨by unfold Nmd; omega, ne0 (List.cons_ne_nil _ _)⟩
  · exact ⟨by unfold Nmd; omega, ne0 (List.cons_ne_nil _ _)⟩
  · exact ⟨by unfold Nmd; omega, ne0 (List.cons_ne_nil _ _)⟩
  · unfold BdP at h
    by_cases h3 : F 5 = 3
    · rw [if_pos h3] at h; exact Bd3_nm h
    · rw [if_neg h3] at h; exact bdW_nm h
theorem EnP_nm {m : Ms} {N : Nat} {d : Nat → Int} {M : Nat} {s : ByteArray} {a y : Nat} (h : EnP m N d M s a y) : NmF s y := by
  rcases h with ⟨_, rfl, _, rfl⟩ | ⟨_, _, rfl, _, rfl⟩ | ⟨_, _, _, rfl, _, rfl⟩ | ⟨_, _, _, ⟨_, _, rfl, _, rfl⟩ | ⟨_, ⟨_, rfl, _, rfl⟩ | ⟨_, _, _, _, rfl, rfl⟩ | ⟨_, _, _, rfl, _, rfl⟩⟩ | ⟨_, _, rfl, _, rfl⟩⟩
  all_goals exact ⟨by unfold Nmd; omega, ne0 (List.cons_ne_nil _ _)⟩
theorem rL_cgW {s m : Nat} {F G : Nat → List Value} (h : ∀ i, i < m → F i = G i) : rL s m F = rL s m G := by
  unfold rL
  refine List.map_congr_left fun k hk => ?_
  have hk : k < m * s := List.mem_range.1 hk
  have hs : 0 < s := by
    rcases Nat.eq_zero_or_pos s with h0 | h0
    · subst h0; omega
    · exact h0
  rw [h (k / s) (Nat.div_lt_of_lt_mul (by rw [Nat.mul_comm]; exact hk))]
theorem OwnR.cgW {w : World} {base : Nat} {T : TypeId} {s : Nat} {v : Value} {n : Nat} {F G : Nat → List Value} (h : OwnR w base T s v n F) (hF : ∀ j, j < n → F j = G j) : OwnR w base T s v n G := by
  refine ⟨?_, fun i hi => by rw [← hF i hi]; exact h.2 i hi⟩
  rw [← rL_cgW hF]
  exact h.1
/-- What is encoded is decoded as what its kind uses. -/
theorem Decode_us (g o c : Nat) (m : Ms) (N : Nat) (d : Nat → Int) (h b : Nat → Nat → Nat) (M : Nat) (ft : Nat → Nat) (hg : EnG m N d M) (hb : ∀ j, j < N → ∀ i, i < 32 → h j i < 256 ∧ b j i < 256) (hc : 14 + enN m N M ≤ c) (hc2 : c ≤ 9223372036854775807) (w : World) (hG : Gl w)
    (hB : Bs w g o (14 + enN m N M) (frB m.kind.toNat (enN m N M) (enF m N d h b M ft))) :
    Calls Tryz.prog 16 #[.slice (some ⟨g, o, none⟩) (14 + enN m N M) c] w fun e w' => ∃ v, e = .returned (.tuple #[v, .nilIface]) ∧ UsV m N d h b M ft w.heap.size w' v ∧ Chg w w' [] := by
  by_cases h3 : m.kind = 3
  · refine (Decode_en3 g o c m N d h b M ft hg h3 hc hc2 w hG hB).mono ?_
    rintro e w' ⟨⟨B, M', vl, vt, hWB, rfl, hS, hl, ha1, ht, ha3⟩, k⟩
    refine ⟨_, rfl, ⟨vl, vt, by rw [hS.cells, us_3 h3], ?_, ?_, ?_⟩, k⟩
    · rw [show uK m N = N from if_pos h3]
      have h2 : OwnR w' w.heap.size 27 65 vl N (lsF (frB m.kind.toNat (enN m N M) (enF m N d h b M ft)) 45) := ⟨ownsRow_base hl.1 hWB, hl.2⟩
      refine h2.cgW fun i hi => ?_
      have g5 := (hg.2.2.2.2.1 h3).2.1 i hi
      unfold okID at g5
      have hc : ∀ j, j < 65 → frB m.kind.toNat (enN m N M) (enF m N d h b M ft) (45 + (65 * i + j)) = cmB (d i).toNat (h i) (b i) j := fun j hj => by
        rw [ha1 (65 * i + j) (by omega)]
        unfold csB
        rw [show (65 * i + j) / 65 = i by omega, show (65 * i + j) % 65 = j by omega]
      unfold lsF cF
      have e0 : ((frB m.kind.toNat (enN m N M) (enF m N d h b M ft) (45 + 65 * i) : Nat) : Int) = d i := by
        rw [show frB m.kind.toNat (enN m N M) (enF m N d h b M ft) (45 + 65 * i) = (d i).toNat from hc 0 (by omega)]
        omega
      have e1 : yL 32 (fun j => frB m.kind.toNat (enN m N M) (enF m N d h b M ft) (45 + 65 * i + 1 + j)) = yL 32 (h i) := yL_eq 32 _ _ fun j hj => by
        have := hc (1 + j) (by omega)
        unfold cmB at this
        rw [if_neg (by omega), if_pos (by omega), Nat.add_sub_cancel_left] at this
        rw [← this, show 45 + (65 * i + (1 + j)) = 45 + 65 * i + 1 + j by omega]
      have e2 : yL 32 (fun j => frB m.kind.toNat (enN m N M) (enF m N d h b M ft) (45 + 65 * i + 33 + j)) = yL 32 (b i) := yL_eq 32 _ _ fun j hj => by
        have := hc (33 + j) (by omega)
        unfold cmB at this
        rw [if_neg (by omega), if_neg (by omega), Nat.add_sub_cancel_left] at this
        rw [← this, show 45 + (65 * i + (33 + j)) = 45 + 65 * i + 33 + j by omega]
      show Value.int .i64 ((frB m.kind.toNat (enN m N M) (enF m N d h b M ft) (45 + 65 * i) : Nat) : Int) :: (yL 32 (fun j => frB m.kind.toNat (enN m N M) (enF m N d h b M ft) (45 + 65 * i + 1 + j)) ++ yL 32 (fun j => frB m.kind.toNat (enN m N M) (enF m N d h b M ft) (45 + 65 * i + 33 + j))) = _
      rw [e0, e1, e2]
    · rw [show uK m N = N from if_pos h3]; exact hb
    · rw [show uK m M = M from if_pos h3]
      exact (ht.base hWB).cg ha3
  · refine (Decode_en g o c m N d h b M ft hg h3 hc hc2 w hG hB).mono ?_
    rintro e w' ⟨rfl, k⟩
    refine ⟨_, rfl, ⟨.slice none 0 0, .slice none 0 0, by rw [us_nil], ?_, ?_, ?_⟩, k⟩
    · rw [show uK m N = 0 from if_neg h3]; exact OwnR.nil _ _ _ _ _
    · rw [show uK m N = 0 from if_neg h3]; intro j hj; omega
    · rw [show uK m M = 0 from if_neg h3]; exact Own.nil _ _ _
theorem smU_self (m : Ms) (N : Nat) (d : Nat → Int) (h b : Nat → Nat → Nat) (M : Nat) (ft : Nat → Nat) : SmU m N d h b M ft m N d h b M ft :=
  ⟨rfl, fun _ _ => rfl, rfl, rfl, fun _ => ⟨rfl, fun _ _ => rfl, fun _ _ => rfl⟩, fun _ => ⟨fun _ _ => rfl, fun _ _ => rfl⟩, fun _ => rfl, fun _ _ _ => rfl, fun _ => ⟨rfl, fun _ _ => ⟨rfl, fun _ _ => rfl, fun _ _ => rfl⟩, rfl, fun _ _ => rfl⟩⟩
/-- Two values that are what the kind uses of one message. -/
theorem Same_one (m : Ms) (N : Nat) (d : Nat → Int) (h b : Nat → Nat → Nat) (M : Nat) (ft : Nat → Nat) (hg : EnG m N d M) (v v' : Value) (w : World) (base base' : Nat) (q : UsV m N d h b M ft base w v) (q' : UsV m N d h b M ft base' w v') :
    Calls Tryz.prog 20 #[v, v'] w fun e w' => e = .returned (.bool true) ∧ Chg w w' [] := by
  have hk := hg.1
  unfold okKind at hk
  refine (Same_us m N d h b M ft m N d h b M ft v v' w base base' q q').mono ?_
  rintro e w' ⟨rfl, k⟩
  exact ⟨by rw [(eqM_smU m N d h b M ft m N d h b M ft hk).2 (smU_self m N d h b M ft)], k⟩
theorem Peek_en (g o c : Nat) (k n : Nat) (F : Nat → Nat) (hk : 1 ≤ k ∧ k ≤ 6) (hn : n ≤ 1065189) (hc : 14 + n ≤ c) (hc2 : c ≤ 9223372036854775807) (w : World) (hB : Bs w g o (14 + n) (frB k n F)) :
    Calls Tryz.prog 18 #[.slice (some ⟨g, o, none⟩) (14 + n) c] w fun e w' => e = .returned (.tuple #[.int .i64 ((k : Nat) : Int), .int .i64 (((14 + n : Nat)) : Int), .nilIface]) ∧ Chg w w' [] := by
  have hd := frB_HdG k n (14 + n) F hk hn (by omega)
  refine (Peek_s g o (14 + n) c _ hc hc2 w hB).mono ?_
  rintro e w' ⟨⟨q, _⟩ | ⟨_, rfl⟩, kk⟩
  · exact absurd hd q
  · refine ⟨?_, kk⟩
    rw [frB_len k n F (by omega), show frB k n F 5 = k from by rw [frB_he _ _ _ _ (by omega)]; rfl]
theorem builtM0b : Tryz.prog.built 35 [] = some (msC (ms0 0)) := by kernel_rfl
theorem Same0b (w : World) : Calls Tryz.prog 20 #[.agg (msC (ms0 0)), .agg (msC (ms0 0))] w fun e w' => e = .returned (.bool true) ∧ Chg w w' [] :=
  SameMsg_t (ms0 0) 0 (fun _ => 0) (fun _ _ => 0) (fun _ _ => 0) 0 (fun _ => 0) (ms0 0) 0 (fun _ => 0) (fun _ _ => 0) (fun _ _ => 0) 0 (fun _ => 0) w
    ⟨⟨cF_ok 0 _ _ _, Or.inl ⟨rfl, rfl⟩⟩, fun i hi => by omega⟩ (Sl.zb (Or.inl ⟨rfl, rfl⟩)) ⟨⟨cF_ok 0 _ _ _, Or.inl ⟨rfl, rfl⟩⟩, fun i hi => by omega⟩ (Sl.zb (Or.inl ⟨rfl, rfl⟩)) (by kernel_rfl)
end Go.Proofs.YtgfeopingompdaaGreatDoor
