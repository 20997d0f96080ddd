/- Streams: Write, Sum of a Hasher and sha512.Sum, as the digest of all bytes. -/
import Derived.Test.YtgfeopingompdaaGreatDoorH7
set_option linter.unusedVariables false
set_option linter.unusedSimpArgs false
set_option linter.unnecessarySimpa false
namespace Go.Proofs.YtgfeopingompdaaGreatDoor
open Go.RowKit

/-- The Hasher h has taken N bytes f. -/
def Hs (w : World) (h : Nat) (f : Nat → Nat) (N : Nat) : Prop :=
  ∃ t, Blk w h (hC (run KK IV f (N / 128)) t N) 212 ∧ (∀ j, j < 128 → t j < 256) ∧ ∀ j, j < N % 128 → t j = f (128 * (N / 128) + j)
theorem Hs.chg {w w' : World} {h : Nat} {f : Nat → Nat} {N : Nat} {ch : List Nat} (H : Hs w h f N) (hc : Chg w w' ch) (ho : ¬ h ∈ ch) : Hs w' h f N := by
  obtain ⟨t, h1, h2, h3⟩ := H
  exact ⟨t, h1.chg hc ho, h2, h3⟩
theorem Hs.lt {w : World} {h : Nat} {f : Nat → Nat} {N : Nat} (H : Hs w h f N) : h < w.heap.size := by
  obtain ⟨t, h1, _⟩ := H
  exact h1.lt
/-- What was taken, and what comes behind it. -/
theorem run_cat (k s f g t : Nat → Nat) (N m : Nat) (ht : ∀ j, j < N % 128 → t j = f (128 * (N / 128) + j)) :
    run k (run k s f (N / 128)) (cat t (N % 128) g) ((N % 128 + m) / 128) = run k s (cat f N g) ((N + m) / 128) := by
  have e : (N + m) / 128 = N / 128 + (N % 128 + m) / 128 := by omega
  rw [e, run_add]
  have e1 : run k s (cat f N g) (N / 128) = run k s f (N / 128) := run_congr _ fun i hi => by unfold cat; rw [if_pos (by omega)]
  rw [e1]
  refine run_congr _ fun i hi => ?_
  unfold cat
  by_cases h : i < N % 128
  · rw [if_pos h, if_pos (by omega), ht i h]
  · rw [if_neg h, if_neg (by omega)]
    congr 1
    omega
theorem Write_h (h N m : Nat) (f g : Nat → Nat) (v : Value) (w : World) (hG : Gl w) (H : Hs w h f N) (h2 : 3 ≤ h) (hv : Sl w v m g) (ho : Off v [h]) (hn : N + m < 18446744073709551616) :
    Calls Tryz.prog 104 #[.pointer (some ⟨h, 0, none⟩), v] w fun e w' => e = .returned (.tuple #[]) ∧ Chg w w' [h] ∧ Hs w' h (cat f N g) (N + m) := by
  obtain ⟨t, B, ht1, ht2⟩ := H
  rcases hv with ⟨rfl, rfl⟩ | ⟨gb, o, cap, rfl, h1, h3, hb⟩
  · refine (Write_nil h N _ t w (show U N by unfold U; omega) B).mono ?_
    rintro e w' ⟨rfl, k, B'⟩
    refine ⟨rfl, k, t, ?_, ht1, fun j hj => ?_⟩
    · refine B'.to (congrArg (fun q => hC q t N) (run_congr _ fun i hi => ?_))
      unfold cat
      rw [if_pos (by omega)]
    · rw [ht2 j hj]
      unfold cat
      rw [if_pos (by omega)]
      rfl
  · refine (Write_g h gb o m cap N KK _ t g w hG.kc (run_lt IV_lt _) ht1 (show U N by unfold U; omega) h1 h3 hb B (by omega) (fun e => ho gb o m cap rfl (by simp [e]))).mono ?_
    rintro e w' ⟨rfl, k, t', a1, a2, B'⟩
    refine ⟨rfl, k, t', ?_, a2, fun j hj => ?_⟩
    · rw [run_cat KK IV f g t N m ht2, Nat.mod_eq_of_lt hn] at B'
      exact B'
    · rw [a1 j (by omega)]
      unfold cat
      by_cases hh : 128 * ((N % 128 + m) / 128) + j < N % 128
      · rw [if_pos hh, if_pos (by omega), ht2 _ hh]
        congr 1
        omega
      · rw [if_neg hh, if_neg (by omega)]
        congr 1
        omega
/-- The digest of N bytes f. -/
def sha (f : Nat → Nat) (N : Nat) : Nat → Nat := dig (run KK IV (cat f N (pdf N)) ((N + (17 + zr N)) / 128))
theorem sha_congr {f g : Nat → Nat} {N : Nat} (h : ∀ i, i < N → f i = g i) : sha f N = sha g N := by
  unfold sha
  congr 1
  refine run_congr _ fun i hi => ?_
  unfold cat
  by_cases h1 : i < N
  · rw [if_pos h1, if_pos h1, h i h1]
  · rw [if_neg h1, if_neg h1]
theorem Sum_h (h N : Nat) (f : Nat → Nat) (w : World) (hG : Gl w) (H : Hs w h f N) (hn : N < 18446744073709551616) :
    Calls Tryz.prog 105 #[.pointer (some ⟨h, 0, none⟩)] w fun e w' => e = .returned (.agg (yC 64 (sha f N))) ∧ Chg w w' [] := by
  obtain ⟨t, B, ht1, ht2⟩ := H
  refine (Sum_raw h N _ t w hG hn (run_lt IV_lt _) ht1 B).mono ?_
  rintro e w' ⟨rfl, k⟩
  refine ⟨?_, k⟩
  unfold fin sha
  rw [run_cat KK IV f (pdf N) t N (17 + zr N) ht2]
set_option maxHeartbeats 4000000 in
set_option maxRecDepth 100000 in
theorem Sum_s (v : Value) (m : Nat) (f : Nat → Nat) (w : World) (hG : Gl w) (hv : Sl w v m f) (hm : m < 18446744073709551616) :
    Calls Tryz.prog 84 #[v] w fun e w' => e = .returned (.agg (yC 64 (sha f m))) ∧ Chg w w' [] := by
  have hl := hG.lt
  have K0 := (Chg.refl w []).alloc (.cells z64 145)
  have F0 := Blk.new w z64 145
  have szw : (w.alloc (.cells z64 145)).heap.size = w.heap.size + 1 := by simp
  go_enter Tryz.func84, Tryz.ntmps84
  go_wp2_with fail
  change Calls _ _ _ (w.alloc (.cells z64 145)) _
  refine (begun_s _ (hG.chg K0 (by simp) (by simp))).mono ?_
  rintro e v1 ⟨rfl, k1⟩
  have A := Blk.new v1 Tryz.zeroCells212 212
  replace F0 := F0.chg k1 (by simp)
  replace K0 := K0.trans1 k1
  have y1 := F0.lt
  clear k1
  go_wp2_with (refine wpList_store_row rfl 212 _ _ rfl v1.heap.size _ rfl rfl 212 _ A (by rw [hC_size]; exact HInfo) (by rw [hC_size]; exact zHsize) (hC_one _ _ _) ?_)
  replace A := A.setRow (hC IV (fun _ => 0) 0)
  have K1 : Chg v1 ((v1.alloc (.cells Tryz.zeroCells212 212)).setRow v1.heap.size (hC IV (fun _ => 0) 0)) [] := ((Chg.refl v1 []).alloc _).setRowNew (Nat.le_refl _) _
  replace F0 := F0.chg K1 (by simp)
  have hsz : v1.heap.size < ((v1.alloc (.cells Tryz.zeroCells212 212)).setRow v1.heap.size (hC IV (fun _ => 0) 0)).heap.size := A.lt
  have hk := K0.size
  replace K0 := K0.trans1 K1
  generalize (v1.alloc (.cells Tryz.zeroCells212 212)).setRow v1.heap.size (hC IV (fun _ => 0) 0) = v2 at *
  have H0 : Hs v2 v1.heap.size (fun _ => 0) 0 := ⟨fun _ => 0, A, fun _ _ => Nat.zero_lt_succ _, fun j hj => absurd hj (Nat.not_lt_zero _)⟩
  generalize v1.heap.size = y at *
  clear K1 A
  refine (Write_h y 0 m (fun _ => 0) f v v2 (hG.chg K0 (by simp) (by simp)) H0 (by omega) (hv.chg K0 (Off.nil v)) (hv.new [y] (by simp; omega)) (by omega)).mono ?_
  rintro e v3 ⟨rfl, k3, H3⟩
  rw [cat_zero, Nat.zero_add] at H3
  replace F0 := F0.chg k3 (by simp; omega)
  replace K0 := K0.trans k3 (by simp; omega)
  go_wp2_with fail
  refine (Sum_h y m f v3 (hG.chg K0 (by simp) (by simp)) H3 hm).mono ?_
  rintro e v4 ⟨rfl, k4⟩
  replace F0 := F0.chg k4 (by simp)
  replace K0 := K0.trans1 k4
  go_wp2_with (refine wpList_store_row rfl 145 _ _ rfl w.heap.size _ rfl rfl 145 _ F0 (by rw [yC_size]; exact DInfo) (by rw [yC_size]; rfl) (yC_one _ _) ?_)
  exact bodyPost_ret (results_cell_row Tryz.results84 _ _ w.heap.size 145 (yC 64 (sha f m)) (0, 0) _ rfl (F0.setRow _) Tryz.underlying145 rfl (by rw [yC_size]; exact DInfo)) rfl ⟨rfl, K0.setRowNew (Nat.le_refl _) _⟩
end Go.Proofs.YtgfeopingompdaaGreatDoor
