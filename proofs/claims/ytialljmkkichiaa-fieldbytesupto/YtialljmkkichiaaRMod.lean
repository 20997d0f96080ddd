/- rimeref01.mod, of at most 32 digits. -/
import Derived.Test.YtialljmkkichiaaRModM
import Derived.Test.YtialljmkkichiaaRLess2
set_option linter.unusedVariables false
set_option linter.unusedSimpArgs false
set_option linter.unnecessarySimpa false
namespace Go.Proofs.Ytialljmkkichiaa
open Go.RowKit N

/-- Numbers in memory, as many as len, from ⟨g, o⟩ on. -/
structure Us (w : World) (g o len : Nat) (l : Nat → Nat) : Prop where
  lt : g < w.heap.size
  cell : ∀ i, i < len → w.cell? ⟨g, o + i, none⟩ = some (.int .u64 ((l i : Nat) : Int))
theorem Us.chg {w w' : World} {g o len : Nat} {l : Nat → Nat} {ch : List Nat} (h : Us w g o len l) (hc : Chg w w' ch) (hb : ¬ g ∈ ch) : Us w' g o len l := by
  refine ⟨Nat.lt_of_lt_of_le h.lt hc.size, fun i hi => ?_⟩
  rw [← h.cell i hi]
  simp only [World.cell?, hc.block g h.lt hb]
theorem Us.alloc {w : World} {g o len : Nat} {l : Nat → Nat} (h : Us w g o len l) (x : Obj) : Us (w.alloc x) g o len l := h.chg ((Chg.refl w []).alloc x) (by simp)
theorem Us.set {w : World} {g o len : Nat} {l : Nat → Nat} (h : Us w g o len l) (b i : Nat) (v : Value) (hb : ¬ g = b) : Us (w.setCell ⟨b, i, none⟩ v) g o len l := h.chg (Chg.of (gb_set (gb_refl w _) i v)) (by rw [List.mem_singleton]; exact hb)
theorem Us.drew {w : World} {g o len : Nat} {l : Nat → Nat} (h : Us w g o len l) : Us w.drew g o len l := h.chg ((Chg.refl w []).drew) (by simp)
theorem Us.of {w : World} {g n : Nat} {f : Nat → Nat} {T : TypeId} (h : Blk w g (uC n f) T) : Us w g 0 n f := ⟨h.lt, fun i hi => by rw [h.cell, Nat.zero_add]; exact uC_get n f i hi⟩
/-- The number that a block of sixteen shows. -/
def mz (w : World) (b : Nat) : Nat := nv (fun i => match w.cell? ⟨b, i, none⟩ with | some (.int _ n) => n.toNat | _ => 0) 0 16
theorem mz_of {w : World} {b : Nat} {f : Nat → Nat} {T : TypeId} (h : Blk w b (uC 16 f) T) : mz w b = nv f 0 16 := by
  unfold mz
  refine nv_congr _ _ 16 0 (fun i _ hi => ?_)
  simp only [h.cell, uC_get 16 f i (by omega), Int.toNat_natCast]
theorem u64w (x : Int) (h0 : 0 ≤ x) (h1 : x < 18446744073709551616) : IntKind.u64.wrap x = x := wr x h0 h1
theorem natc (a b : Nat) : ((a : Nat) : Int) + ((b : Nat) : Int) = ((a + b : Nat) : Int) := by omega
theorem natc38 (a b : Nat) : ((a : Nat) : Int) + 38 * ((b : Nat) : Int) = ((a + 38 * b : Nat) : Int) := by omega

set_option maxHeartbeats 4000000 in
set_option maxRecDepth 100000 in
theorem mod_r (g o n cap : Nat) (l : Nat → Nat) (hn : n ≤ 32) (hl : ∀ i, i < n → l i < 1099511627776) (w : World) (hu : Us w g o n l) :
    Calls Try.prog 68 #[.slice (some ⟨g, o, none⟩) n cap] w fun e w' => e = .returned (.agg (dC (nv l 0 n % PM))) ∧ Chg w w' [] := by
  have hg := hu.lt
  have B0 : Blk ((w.alloc (.cells z16 84)).alloc (.cells z16 84)) w.heap.size z16 84 := (Blk.new w z16 84).alloc _
  have B1 : Blk ((w.alloc (.cells z16 84)).alloc (.cells z16 84)) (w.heap.size + 1) z16 84 := by have h := Blk.new (w.alloc (.cells z16 84)) z16 84; simpa using h
  rw [show z16 = uC 16 (fold l 0) from z16_uC.trans (uC_congr 16 _ _ (fun i _ => (fold_zero l i).symm))] at B1
  have C0 := ((Chg.refl w []).alloc (.cells z16 84)).alloc (.cells z16 84)
  replace hu := (hu.alloc (.cells z16 84)).alloc (.cells z16 84)
  go_enter Try.func68, Try.ntmps68
  have hle : ¬ (32 : Int) < (n : Int) := by omega
  go_wp2_with fail
  go_loopw [7] (fun t wr => ∃ k : Nat, k ≤ n ∧ t = .int .i64 (k : Int) ∧ Blk wr (w.heap.size + 1) (uC 16 (fold l k)) 84 ∧ Blk wr w.heap.size z16 84 ∧ Us wr g o n l ∧ Chg w wr []) (fun t _ => ((n : Int) - intOf t).toNat)
  case atStart => exact ⟨0, by omega, rfl, B1, B0, hu, C0⟩
  case round =>
    obtain ⟨k, hk, rfl, b1, b0, u0, c0⟩ := hrel
    clear B0 B1 C0 hu
    by_cases hkn : k < n
    · have hI : (k : Int) < (n : Int) := by omega
      have hlk := hl k hkn
      have cB := u0.cell k hkn
      by_cases hk16 : k < 16
      · have hI2 : (k : Int) < 16 := by omega
        have cA := (b1.cell k).trans (uC_get 16 (fold l k) k hk16)
        have fA := b1.frozen k
        have hfl := fold_lt l n k k hk hl
        have hw := u64w (((fold l k k : Nat) : Int) + ((l k : Nat) : Int)) (by omega) (by omega)
        have bn : Blk (wr.setCell ⟨w.heap.size + 1, k, none⟩ (.int .u64 (((fold l k k : Nat) : Int) + ((l k : Nat) : Int)))) (w.heap.size + 1) (uC 16 (fold l (k + 1))) 84 := (b1.setCell k _).to (by rw [natc, uC_set]; exact uC_congr 16 _ _ (fold_low l k hk16))
        have b0n := b0.setOther (b := w.heap.size) (show ¬ w.heap.size = w.heap.size + 1 by omega) k (.int .u64 (((fold l k k : Nat) : Int) + ((l k : Nat) : Int)))
        have un := u0.set (w.heap.size + 1) k (.int .u64 (((fold l k k : Nat) : Int) + ((l k : Nat) : Int))) (by omega)
        have cn := c0.new (Chg.of (gb_set (gb_refl wr _) k (.int .u64 (((fold l k k : Nat) : Int) + ((l k : Nat) : Int))))) (show w.heap.size ≤ w.heap.size + 1 by omega)
        clear b1 b0 u0 c0
        go_wp2_with fail
        go_region
        go_wp2_with fail
        exact ⟨⟨k + 1, by omega, by go_num, bn.drew, b0n.drew, un.drew, cn.drew⟩, by simp [intOf]; omega⟩
      · obtain ⟨i, rfl⟩ : ∃ i, k = i + 16 := ⟨k - 16, by omega⟩
        have hi : i < 16 := by omega
        have hI2 : ¬ ((i + 16 : Nat) : Int) < 16 := by omega
        have hI3 : ((i + 16 : Nat) : Int) - 16 = (i : Int) := by omega
        have hI4 : (i : Int) < 16 := by omega
        have cA := (b1.cell i).trans (uC_get 16 (fold l (i + 16)) i hi)
        have fA := b1.frozen i
        have hfl := fold_lt l n (i + 16) i hk hl
        have hw1 := u64w (38 * ((l (i + 16) : Nat) : Int)) (by omega) (by omega)
        have hw2 := u64w (((fold l (i + 16) i : Nat) : Int) + 38 * ((l (i + 16) : Nat) : Int)) (by omega) (by omega)
        have bn : Blk (wr.setCell ⟨w.heap.size + 1, i, none⟩ (.int .u64 (((fold l (i + 16) i : Nat) : Int) + 38 * ((l (i + 16) : Nat) : Int)))) (w.heap.size + 1) (uC 16 (fold l (i + 16 + 1))) 84 := (b1.setCell i _).to (by rw [natc38, uC_set]; exact uC_congr 16 _ _ (fold_high l i hi))
        have b0n := b0.setOther (b := w.heap.size) (show ¬ w.heap.size = w.heap.size + 1 by omega) i (.int .u64 (((fold l (i + 16) i : Nat) : Int) + 38 * ((l (i + 16) : Nat) : Int)))
        have un := u0.set (w.heap.size + 1) i (.int .u64 (((fold l (i + 16) i : Nat) : Int) + 38 * ((l (i + 16) : Nat) : Int))) (by omega)
        have cn := c0.new (Chg.of (gb_set (gb_refl wr _) i (.int .u64 (((fold l (i + 16) i : Nat) : Int) + 38 * ((l (i + 16) : Nat) : Int))))) (show w.heap.size ≤ w.heap.size + 1 by omega)
        clear b1 b0 u0 c0
        go_wp2_with fail
        go_region
        go_wp2_with fail
        exact ⟨⟨i + 16 + 1, by omega, by go_num, bn.drew, b0n.drew, un.drew, cn.drew⟩, by simp [intOf]; omega⟩
    · have hkn2 : k = n := by omega
      subst hkn2
      have htb : TB 0 (fold l k) (nv l 0 k) := ⟨fun j _ => fold_lt l k k j (Nat.le_refl _) hl, nv_fold l k hn, fun h => absurd h (by omega), fun h => absurd h (by omega), fun h => absurd h (by omega)⟩
      clear hkn hk u0 hl
      generalize fold l k = f0 at *
      go_wp2_with fail
      go_loopw [8] (fun t wr => ∃ (q : Nat) (f : Nat → Nat), q ≤ 8 ∧ t = .int .i64 (q : Int) ∧ Blk wr (w.heap.size + 1) (uC 16 f) 84 ∧ Blk wr w.heap.size z16 84 ∧ Chg w wr [] ∧ TB q f (nv l 0 k)) (fun t _ => (8 - intOf t).toNat)
      case atStart => exact ⟨0, f0, by omega, rfl, b1, b0, c0, htb⟩
      case round =>
        obtain ⟨q, f, hq, rfl, b1, b0, c0, ht⟩ := hrel
        by_cases hq8 : q < 8
        · have hI : (q : Int) < 8 := by omega
          go_wp2_with fail
          go_loopw [9, 10] (fun c u wr => ∃ (i : Nat) (g : Nat → Nat) (cy : Nat), i ≤ 16 ∧ c = .int .u64 (cy : Int) ∧ u = .int .i64 (i : Int) ∧ cy < 2147483648 ∧ Blk wr (w.heap.size + 1) (uC 16 g) 84 ∧ Blk wr w.heap.size z16 84 ∧ Chg w wr [] ∧ (∀ j, j < i → g j < 65536) ∧ (∀ j, i ≤ j → g j = f j) ∧ nv g 0 i + 65536 ^ i * cy = nv f 0 i) (fun _ u _ => (16 - intOf u).toNat)
          case atStart => exact ⟨0, f, 0, by omega, rfl, rfl, by omega, b1, b0, c0, fun j hj => absurd hj (by omega), fun j _ => rfl, by simp [nv]⟩
          case round =>
            obtain ⟨i, g, cy, hi16, rfl, rfl, hcy, b1, b0, c0, hlo, hhi, hv⟩ := hrel
            by_cases hi : i < 16
            · have hiI : (i : Int) < 16 := by omega
              have hgi : g i < 70368744177664 := by rw [hhi i (Nat.le_refl _)]; exact ht.1 i hi
              obtain ⟨xn, hxn⟩ : ∃ x, x = g i + cy := ⟨_, rfl⟩
              have hw : IntKind.u64.wrap (((g i : Nat) : Int) + ((cy : Nat) : Int)) = ((xn : Nat) : Int) := by rw [u64w _ (by omega) (by omega)]; omega
              have hx2 : xn / 65536 < 2147483648 := by omega
              have hlow : Hid (∀ j, j < i + 1 → upd g i (xn % 65536) j < 65536) := fun j hj => by
                by_cases e : j = i
                · subst e; rw [upd_same]; omega
                · rw [upd_other _ _ _ _ e]; exact hlo j (by omega)
              have hhigh : Hid (∀ j, i + 1 ≤ j → upd g i (xn % 65536) j = f j) := fun j hj => by rw [upd_other _ _ _ _ (by omega)]; exact hhi j (by omega)
              have hval : Hid (nv (upd g i (xn % 65536)) 0 (i + 1) + 65536 ^ (i + 1) * (xn / 65536) = nv f 0 (i + 1)) := by
                show nv (upd g i (xn % 65536)) 0 (i + 1) + 65536 ^ (i + 1) * (xn / 65536) = nv f 0 (i + 1)
                rw [nv_snoc, nv_snoc, nv_upd_above g i _ 0 i (by omega), Nat.zero_add, upd_same, Nat.pow_succ]
                exact carry_step _ _ _ cy xn _ hv (by rw [← hhi i (Nat.le_refl _)]; exact hxn)
              have hmod : Hid (((xn : Nat) : Int) % 65536 = ((xn % 65536 : Nat) : Int)) := (by omega : ((xn : Nat) : Int) % 65536 = ((xn % 65536 : Nat) : Int))
              have cA := (b1.cell i).trans (uC_get 16 g i hi)
              have fA := b1.frozen i
              have bn : Blk (wr.setCell ⟨w.heap.size + 1, i, none⟩ (.int .u64 (((xn : Nat) : Int) % 65536))) (w.heap.size + 1) (uC 16 (upd g i (xn % 65536))) 84 := (b1.setCell i _).to (by rw [hmod.out]; exact uC_set 16 g i _)
              have b0n := b0.setOther (b := w.heap.size) (show ¬ w.heap.size = w.heap.size + 1 by omega) i (.int .u64 (((xn : Nat) : Int) % 65536))
              have cn := c0.new (Chg.of (gb_set (gb_refl wr _) i (.int .u64 (((xn : Nat) : Int) % 65536)))) (show w.heap.size ≤ w.heap.size + 1 by omega)
              clear b1 b0 c0 hlo hhi hv hxn
              go_wp2_with fail
              go_roundw
              case rel => exact ⟨i + 1, upd g i (xn % 65536), xn / 65536, by omega, by go_num, by go_num, hx2, bn, b0n, cn, hlow, hhigh, hval⟩
              case measure => simp [intOf]; omega
            · have hi2 : i = 16 := by omega
              subst hi2
              have htn : Hid (TB (q + 1) (upd g 0 (g 0 + 38 * cy)) (nv l 0 k)) := turn_TB q f g cy _ ht hlo hv hcy
              have hg0 := hlo 0 (by decide)
              have hw1 := u64w (38 * ((cy : Nat) : Int)) (by omega) (by omega)
              have hw2 := u64w (((g 0 : Nat) : Int) + 38 * ((cy : Nat) : Int)) (by omega) (by omega)
              have cA := (b1.cell 0).trans (uC_get 16 g 0 (by decide))
              have fA := b1.frozen 0
              have bn : Blk (wr.setCell ⟨w.heap.size + 1, 0, none⟩ (.int .u64 (((g 0 : Nat) : Int) + 38 * ((cy : Nat) : Int)))) (w.heap.size + 1) (uC 16 (upd g 0 (g 0 + 38 * cy))) 84 := (b1.setCell 0 _).to (by rw [natc38]; exact uC_set 16 g 0 _)
              have b0n := b0.setOther (b := w.heap.size) (show ¬ w.heap.size = w.heap.size + 1 by omega) 0 (.int .u64 (((g 0 : Nat) : Int) + 38 * ((cy : Nat) : Int)))
              have cn := c0.new (Chg.of (gb_set (gb_refl wr _) 0 (.int .u64 (((g 0 : Nat) : Int) + 38 * ((cy : Nat) : Int))))) (show w.heap.size ≤ w.heap.size + 1 by omega)
              clear b1 b0 c0 hlo hhi hv hi ht
              go_wp2_with fail
              exact ⟨⟨q + 1, upd g 0 (g 0 + 38 * cy), by omega, by go_num, bn, b0n, cn, htn⟩, by simp [intOf]; omega⟩
        · have hq2 : q = 8 := by omega
          subst hq2
          obtain ⟨_, hm, _, _, hd⟩ := ht
          replace hd := hd (by decide)
          clear hq hq8
          go_wp2_with fail
          go_loopw [96] (fun t wr => ∃ f : Nat → Nat, Blk wr (w.heap.size + 1) (uC 16 f) 84 ∧ Blk wr w.heap.size z16 84 ∧ Chg w wr [] ∧ (∀ j, j < 16 → f j < 65536) ∧ nv f 0 16 % PM = nv l 0 k % PM) (fun _ wr => mz wr (w.heap.size + 1))
          case atStart => exact ⟨f, b1, b0, c0, hd, hm⟩
          case round =>
            obtain ⟨f, b1, b0, c0, hd, hm⟩ := hrel
            go_wp2_with (refine wpList_load_row rfl 84 _ rfl (w.heap.size + 1) rfl 84 _ (0, 0) _ b1 Try.underlying84 rfl (nInfo16 _) ?_)
            refine (atLeast_r f hd _).mono ?_
            rintro e v1 ⟨rfl, k1⟩
            have hmz : mz wr (w.heap.size + 1) = nv f 0 16 := mz_of b1
            replace b1 := b1.chg k1 (by simp)
            replace b0 := b0.chg k1 (by simp)
            replace c0 := c0.trans1 k1
            clear k1
            by_cases hP : PM ≤ nv f 0 16
            · obtain ⟨m, hmm⟩ : ∃ m, nv f 0 16 = m + PM := ⟨nv f 0 16 - PM, by omega⟩
              rw [decide_eq_true hP]
              replace hmz : Hid (mz wr (w.heap.size + 1) = nv f 0 16) := hmz
              replace hmm : Hid (nv f 0 16 = m + PM) := hmm
              replace hm : Hid (nv f 0 16 % PM = nv l 0 k % PM) := hm
              clear hP
              go_wp2_with (refine wpList_load_row rfl 84 _ rfl (w.heap.size + 1) rfl 84 _ (0, 0) _ b1 Try.underlying84 rfl (nInfo16 _) ?_)
              refine (lessP_r f hd m hmm.out _).mono ?_
              rintro e v2 ⟨rfl, k2⟩
              replace b1 := b1.chg k2 (by simp)
              replace b0 := b0.chg k2 (by simp)
              replace c0 := c0.trans1 k2
              clear k2
              go_wp2_with (refine wpList_store_row rfl 84 _ _ rfl (w.heap.size + 1) _ rfl rfl 84 _ b1 (nInfo16 _) rfl (uC_one _ _) ?_)
              have bn : Blk (v2.setRow (w.heap.size + 1) (dC m)) (w.heap.size + 1) (uC 16 (dg m)) 84 := b1.setRow _
              have hm2 : nv (dg m) 0 16 = m := nv_dg16 m (by have h := nv_lt f 16 0 (fun j _ hj => hd j (by omega)); rw [pow16, hmm.out] at h; omega)
              go_roundw
              case rel =>
                exact ⟨_, _, _, _, ⟨dg m, bn, b0.setRowOther (by omega) _, c0.setRowNew (by omega) _, fun j _ => dg_lt m j, by rw [hm2]; exact less_mod _ _ _ hm.out hmm.out⟩, rfl⟩
              case measure => rw [mz_of bn, hm2, hmz.out, hmm.out]; unfold PM; omega
            · have hfin : uC 16 f = dC (nv l 0 k % PM) := dC_of f hd _ (mod_done _ _ hm (by omega))
              rw [decide_eq_false hP]
              rw [hfin] at b1
              clear hP hm hmz hfin hd
              go_wp2_with (first | (refine wpList_load_row rfl 84 _ rfl (w.heap.size + 1) rfl 84 _ (0, 0) _ b1 Try.underlying84 rfl (nInfo16 _) ?_) | (refine wpList_store_row rfl 84 _ _ rfl w.heap.size _ rfl rfl 84 _ b0 (nInfo16 _) rfl (uC_one _ _) ?_))
              exact bodyPost_ret (results_cell_row Try.results68 _ _ w.heap.size 84 (dC (nv l 0 k % PM)) (0, 0) _ rfl (Blk.setRow b0 _) Try.underlying84 rfl (nInfo16 _)) rfl ⟨rfl, c0.setRowNew (Nat.le_refl _) _⟩
end Go.Proofs.Ytialljmkkichiaa
