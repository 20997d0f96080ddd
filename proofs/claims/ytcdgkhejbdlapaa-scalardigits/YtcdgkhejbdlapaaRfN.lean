/- rimeref02.half, less: nine words of 32 bits. -/
import Derived.Test.YtcdgkhejbdlapaaOwnI
import Derived.Test.YtcdgkhejbdlapaaRLeg
import Derived.Deep.DeepCutAuto
set_option linter.unusedVariables false
set_option linter.unusedSimpArgs false
set_option linter.unnecessarySimpa false
namespace Go.Proofs.Ytcdgkhejbdlapaa
open Go.RowKit N

theorem mix9_zero (m n : Nat) : uC 9 (mix m n 0) = uC 9 (dg n) := uC_congr 9 _ _ (fun j _ => if_neg (by omega))
theorem mix9_all (m n : Nat) : uC 9 (mix m n 9) = uC 9 (dg m) := uC_congr 9 _ _ (fun j hj => if_pos hj)
theorem dg9 (n : Nat) (h : n < 497323236409786642155382248146820840100456150797347717440463976893159497012533375533056) : dg n 9 = 0 := by
  unfold dg
  rw [Nat.div_eq_of_lt (by rw [show (4294967296 : Nat) ^ 9 = 497323236409786642155382248146820840100456150797347717440463976893159497012533375533056 from by decide]; exact h)]
theorem m9 (i : Nat) (h : i < 9) : (9 - intOf (.int .i64 ((i : Int) + 1))).toNat < (9 - intOf (.int .i64 (i : Int))).toNat := by simp [intOf]; omega
theorem half_nat (x : Nat) : (x : Int) / 2 = ((x / 2 : Nat) : Int) := by omega
attribute [local irreducible] mix mixh dg uC
set_option maxHeartbeats 4000000 in
set_option maxRecDepth 100000 in
theorem half9_s (g V : Nat) (hV : V < 497323236409786642155382248146820840100456150797347717440463976893159497012533375533056) (w : World) (B : Blk w g (uC 9 (dg V)) 95) :
    Calls Try.prog 95 #[.slice (some ⟨g, 0, none⟩) 9 9] w fun e w' => e = .returned (.tuple #[]) ∧ Blk w' g (uC 9 (dg (V / 2))) 95 ∧ Chg w w' [g] := by
  obtain ⟨HF, hHF⟩ : ∃ x, V / 2 = x := ⟨_, rfl⟩
  have HM : Hid (∀ i, dg HF i = dg V i / 2 + 2147483648 * (dg V (i + 1) % 2)) := show ∀ i, dg HF i = dg V i / 2 + 2147483648 * (dg V (i + 1) % 2) from fun i => by rw [← hHF]; exact dg_half V i
  have H8 : Hid (dg HF 8 = dg V 8 / 2) := by show dg HF 8 = dg V 8 / 2; rw [HM.out 8, dg9 V hV, Nat.zero_mod, Nat.mul_zero, Nat.add_zero]
  rw [hHF]
  clear hHF hV
  rw [← mix9_zero HF V] at B
  go_enter Try.func95, Try.ntmps95
  go_wp2_with fail
  go_loopw [2] (fun t wr => ∃ i : Nat, i ≤ 9 ∧ t = .int .i64 (i : Int) ∧ Blk wr g (uC 9 (mix HF V i)) 95 ∧ Chg w wr [g]) (fun t _ => (9 - intOf t).toNat)
  case atStart => exact ⟨0, by omega, rfl, B, Chg.refl w _⟩
  case round =>
    obtain ⟨i, hi, rfl, b0, c0⟩ := hrel
    clear B
    by_cases h9 : i < 9
    · have hI : (i : Int) < 9 := by omega
      have HMm : Hid _ := m9 i h9
      have HI1 : Hid (i + 1 ≤ 9) := by show i + 1 ≤ 9; omega
      have cA := (b0.cell i).trans ((uC_get 9 (mix HF V i) i h9).trans (by rw [mix_at]))
      have fA := b0.frozen i
      have bm : Blk (wr.setCell ⟨g, i, none⟩ (.int .u32 ((dg V i / 2 : Nat) : Int))) g (uC 9 (mixh HF V i)) 95 := (b0.setCell i _).to (by rw [uC_set]; unfold mixh; rfl)
      have cm := c0.setIn (show g ∈ [g] by simp) i (.int .u32 ((dg V i / 2 : Nat) : Int))
      have hdv := half_nat (dg V i)
      by_cases h8 : i < 8
      · have hI7 : (i : Int) + 1 < 9 := by omega
        obtain ⟨x, hx⟩ : ∃ x, dg V i = x := ⟨_, rfl⟩
        obtain ⟨d2, hd2⟩ : ∃ d2, dg V (i + 1) = d2 := ⟨_, rfl⟩
        have ho := or_half x d2 (by rw [← hx]; exact dg_lt _ _) (by rw [← hd2]; exact dg_lt _ _)
        have hz := HM.out i
        rw [hx, hd2] at hz
        rw [← hz] at ho
        have cB := (bm.cell i).trans ((uC_get 9 (mixh HF V i) i h9).trans (by rw [mixh_at]))
        have cC := (bm.cell (i + 1)).trans ((uC_get 9 (mixh HF V i) (i + 1) (by omega)).trans (by rw [mixh_next]))
        have fB := bm.frozen i
        rw [hx] at cA cB hdv bm cm cC fB
        rw [hd2] at cC
        obtain ⟨d, hd⟩ : ∃ d, x / 2 = d := ⟨_, rfl⟩
        rw [hd] at cB hdv bm cm ho cC fB
        obtain ⟨z, hz2⟩ : ∃ z, dg HF i = z := ⟨_, rfl⟩
        rw [hz2] at ho
        have HZ : Hid (dg HF i = z) := hz2
        clear b0 c0 HM H8 hx hd2 hd hz hz2 h9 h8 hi
        go_upto_region 5 with fail
        generalize hwm : wr.setCell ⟨g, i, none⟩ (.int .u32 ((d : Nat) : Int)) = wm at *
        go_region
        go_wp2_with fail
        exact ⟨⟨i + 1, HI1.out, by go_num, ((bm.setCell i (.int .u32 ((z : Nat) : Int))).drew).to (by rw [uC_set, ← HZ.out, mixh_step]), (cm.setIn (by simp) i _).drew⟩, HMm.out⟩
      · have hI7 : ¬ (i : Int) + 1 < 9 := by omega
        have H7i : dg HF i = dg V i / 2 := by
          obtain rfl : i = 8 := by omega
          exact H8.out
        have bn : Blk (wr.setCell ⟨g, i, none⟩ (.int .u32 ((dg V i / 2 : Nat) : Int))) g (uC 9 (mix HF V (i + 1))) 95 := bm.to (by have e := mix_step HF V i; rw [H7i] at e; unfold mixh; rw [e])
        obtain ⟨x, hx⟩ : ∃ x, dg V i = x := ⟨_, rfl⟩
        obtain ⟨d, hd⟩ : ∃ d, x / 2 = d := ⟨_, rfl⟩
        rw [hx] at cA hdv bn cm
        rw [hd] at hdv bn cm
        clear b0 c0 HM H8 bm H7i hd hx h9 h8 hi
        go_wp2_with fail
        exact ⟨⟨i + 1, HI1.out, by go_num, bn, cm⟩, HMm.out⟩
    · have hI : ¬ (i : Int) < 9 := by omega
      obtain rfl : i = 9 := by omega
      go_wp2_with fail
      go_end0
      exact ⟨rfl, b0.to (mix9_all HF V), c0⟩

/-- The carry of less into word i. -/
def lc (V W i : Nat) : Int := ((W / 4294967296 ^ i : Nat) : Int) - ((V / 4294967296 ^ i : Nat) : Int)
theorem lc_bd (V W i : Nat) (h1 : V ≤ W + 256) (h2 : W ≤ V + 256) : -256 ≤ lc V W i ∧ lc V W i ≤ 256 := by
  unfold lc
  have hp : 0 < 4294967296 ^ i := Nat.pow_pos (by decide)
  have key : ∀ a b K : Nat, 0 < K → a ≤ b + 256 → a / K ≤ b / K + 256 := fun a b K hK h => by
    have e : (b + K * 256) / K = b / K + 256 := Nat.add_mul_div_left _ _ hK
    rw [← e]
    refine Nat.div_le_div_right (Nat.le_trans h ?_)
    have : 1 * 256 ≤ K * 256 := Nat.mul_le_mul_right _ hK
    omega
  have k1 := key W V _ hp h2
  have k2 := key V W _ hp h1
  generalize W / 4294967296 ^ i = a at *
  generalize V / 4294967296 ^ i = b at *
  omega
theorem lc_step (V W i x y : Nat) (hx : dg V i = x) (hy : dg W i = y) : IntKind.u32.wrap (lc V W i + (x : Int)) = (y : Int) ∧ (lc V W i + (x : Int)) / 4294967296 = lc V W (i + 1) := by
  unfold dg at hx hy
  unfold lc
  rw [IntKind.wrap_u32', Nat.pow_succ, ← Nat.div_div_eq_div_mul, ← Nat.div_div_eq_div_mul]
  generalize W / 4294967296 ^ i = a at *
  generalize V / 4294967296 ^ i = b at *
  omega
theorem less_facts (V W i x : Nat) (h1 : V ≤ W + 256) (h2 : W ≤ V + 256) (hx : dg V i = x) : ∃ (s : Int) (y : Nat), wrap64 (x : Int) = (x : Int) ∧ wrap64 (lc V W i + (x : Int)) = s ∧ IntKind.u32.wrap s = (y : Int) ∧ s / 4294967296 = lc V W (i + 1) ∧ dg W i = y := by
  have hb := lc_bd V W i h1 h2
  have hl := dg_lt V i
  rw [hx] at hl
  obtain ⟨r1, r2⟩ := lc_step V W i x _ hx rfl
  refine ⟨_, _, ?_, ?_, r1, r2, rfl⟩
  · unfold wrap64; omega
  · generalize lc V W i = c at *
    unfold wrap64; omega
attribute [local irreducible] lc
set_option maxHeartbeats 4000000 in
set_option maxRecDepth 100000 in
theorem less9_s (g V W : Nat) (d : Int) (hd : (W : Int) = (V : Int) - d) (hd1 : -200 ≤ d) (hd2 : d ≤ 200) (w : World) (B : Blk w g (uC 9 (dg V)) 95) :
    Calls Try.prog 94 #[.slice (some ⟨g, 0, none⟩) 9 9, .int .i64 d] w fun e w' => e = .returned (.tuple #[]) ∧ Blk w' g (uC 9 (dg W)) 95 ∧ Chg w w' [g] := by
  have hl0 : wrap64 (-d) = lc V W 0 := by
    unfold lc wrap64
    simp only [Nat.pow_zero, Nat.div_one]
    omega
  have HLF : Hid (∀ i x, dg V i = x → ∃ (s : Int) (y : Nat), wrap64 (x : Int) = (x : Int) ∧ wrap64 (lc V W i + (x : Int)) = s ∧ IntKind.u32.wrap s = (y : Int) ∧ s / 4294967296 = lc V W (i + 1) ∧ dg W i = y) := fun i x hx => less_facts V W i x (by omega) (by omega) hx
  clear hd hd1 hd2
  rw [← mix9_zero W V] at B
  go_enter Try.func94, Try.ntmps94
  go_wp2_with fail
  go_loopw [4, 5] (fun tc t wr => ∃ i : Nat, i ≤ 9 ∧ t = .int .i64 (i : Int) ∧ tc = .int .i64 (lc V W i) ∧ Blk wr g (uC 9 (mix W V i)) 95 ∧ Chg w wr [g]) (fun _ t _ => (9 - intOf t).toNat)
  case atStart => exact ⟨0, by omega, rfl, by rw [hl0], B, Chg.refl w _⟩
  case round =>
    obtain ⟨i, hi, rfl, rfl, b0, c0⟩ := hrel
    clear B hl0
    by_cases h9 : i < 9
    · have hI : (i : Int) < 9 := by omega
      have HMm : Hid _ := m9 i h9
      have HI1 : Hid (i + 1 ≤ 9) := by show i + 1 ≤ 9; omega
      have cA := (b0.cell i).trans ((uC_get 9 (mix W V i) i h9).trans (by rw [mix_at]))
      have fA := b0.frozen i
      obtain ⟨x, hx⟩ : ∃ x, dg V i = x := ⟨_, rfl⟩
      obtain ⟨s, y, e1, e2, e3, e4, e5⟩ := HLF.out i x hx
      rw [hx] at cA
      have HY : Hid (dg W i = y) := e5
      clear hx e5 HLF h9 hi
      go_wp2_with fail
      exact ⟨⟨i + 1, HI1.out, by go_num, rfl, (b0.setCell i (.int .u32 ((y : Nat) : Int))).to (by rw [uC_set, ← HY.out, mix_step]), c0.setIn (by simp) i _⟩, HMm.out⟩
    · have hI : ¬ (i : Int) < 9 := by omega
      obtain rfl : i = 9 := by omega
      go_wp2_with fail
      go_end0
      exact ⟨rfl, b0.to (mix9_all W V), c0⟩
end Go.Proofs.Ytcdgkhejbdlapaa
