import Derived.Test.YtgjclegpnbjlkaaGreatDoorMwL
set_option linter.all false
namespace Go.Proofs.YtgjclegpnbjlkaaGreatDoor
set_option maxHeartbeats 8000000
set_option maxRecDepth 100000
open Go.RowKit
def hC (s t : Nat → Nat) (n : Nat) : Array Value := vC 8 s ++ (yC 128 t ++ #[.int .u64 n, .bool true])
theorem hC_size (s t : Nat → Nat) (n : Nat) : (hC s t n).size = 138 := by unfold hC; rw [seg_size, vC_size]; rfl
theorem hC_taken (s t : Nat → Nat) (n : Nat) : (hC s t n)[136]? = some (.int .u64 n) := by unfold hC; rw [seg_get, vC_size]; rfl
theorem hC_made (s t : Nat → Nat) (n : Nat) : (hC s t n)[137]? = some (.bool true) := by unfold hC; rw [seg_get, vC_size]; rfl
theorem hC_tail (s t : Nat → Nat) (n j : Nat) (h : j < 128) : (hC s t n)[8 + j]? = some (.int .u8 (t j)) := by
 unfold hC
 rw [seg_get, vC_size, if_neg (by omega), Nat.add_sub_cancel_left, if_pos h]
theorem hC_take (s t : Nat → Nat) (n m : Nat) : (hC s t n).setIfInBounds 136 (.int .u64 m) = hC s t m := by
 unfold hC
 rw [Array.setIfInBounds_append_right (by rw [vC_size]; omega), Array.setIfInBounds_append_right (by rw [yC_size, vC_size]; omega), vC_size, yC_size]
 rfl
theorem hC_one (s t : Nat → Nat) (n : Nat) : (hC s t n).all (·.oneCell') = true := by
 unfold hC
 rw [Array.all_append, Array.all_append, vC_one, yC_one]
 simp [Value.oneCell']
def slen : Value → Nat
 | .slice _ n _ => n
 | _ => 0
theorem tail_Bs {w : World} {h : Nat} {s t : Nat → Nat} {n : Nat} {T : TypeId} (H : Blk w h (hC s t n) T) (ht : ∀ j, j < 128 → t j < 256) : Bs w h 8 128 t :=
 ⟨H.lt, ht, fun i hi => by rw [H.cell, hC_tail _ _ _ _ hi]⟩
theorem lay_lt {t f : Nat → Nat} {off n N : Nat} (ht : ∀ j, j < N → t j < 256) (hf : ∀ j, j < n → f j < 256) : ∀ j, j < N → lay t off n f j < 256 := by
 intro j hj
 unfold lay
 by_cases h : off ≤ j ∧ j < off + n
 · rw [if_pos h]; exact hf _ (by omega)
 · rw [if_neg h]; exact ht j hj
theorem lay_cat (t f : Nat → Nat) (r m j : Nat) (hj : j < r + m) : lay t r m f j = cat t r f (128 * 0 + j) := by
 unfold lay cat
 rw [Nat.mul_zero, Nat.zero_add]
 by_cases h : j < r
 · rw [if_neg (by omega), if_pos h]
 · rw [if_pos (by omega), if_neg h]
theorem u8Info : (Tryz.prog.info? 5).map (·.size) = some 1 := by kernel_rfl
theorem Write_g (h g o m c n : Nat) (k s t f : Nat → Nat) (w : World) (HKc : Kc w k) (hs : ∀ i, i < 8 → U (s i)) (ht : ∀ j, j < 128 → t j < 256) (hn : U n)
   (hmc : m ≤ c) (hc : c ≤ 9223372036854775807) (hb : Bs w g o m f) (hh : Blk w h (hC s t n) 200) (hz0 : ¬ h = 2) (hgh : ¬ g = h) :
   Calls Tryz.prog 96 #[.pointer (some ⟨h, 0, none⟩), .slice (some ⟨g, o, none⟩) m c] w fun e w' => e = .returned (.tuple #[]) ∧ Chg w w' [h] ∧
     ∃ t', (∀ j, j < (n % 128 + m) % 128 → t' j = cat t (n % 128) f (128 * ((n % 128 + m) / 128) + j)) ∧ (∀ j, j < 128 → t' j < 256) ∧
       Blk w' h (hC (run k s (cat t (n % 128) f) ((n % 128 + m) / 128)) t' ((n + m) % 18446744073709551616)) 200 := by
 unfold U at hn
 have glt := hb.lt
 have hlt := hh.lt
 obtain ⟨r, hr⟩ : ∃ r, n % 128 = r := ⟨_, rfl⟩
 have hr1 : r < 128 := by omega
 obtain ⟨n', hn'⟩ : ∃ x, (n + m) % 18446744073709551616 = x := ⟨_, rfl⟩
 have e1 : (n : Int).tmod 128 = (r : Int) := by rw [Int.tmod_eq_emod_of_nonneg (by omega)]; omega
 have e2 : IntKind.u64.wrap ((n : Int) + (m : Int)) = (n' : Int) := by rw [IntKind.wrap_u64]; omega
 have e3 : IntKind.u64.wrap (m : Int) = (m : Int) := by rw [IntKind.wrap_u64]; omega
 rw [hr, hn']
 clear hr hn'
 have c1 := hh.cell 136
 have c2 := hh.cell 137
 rw [hC_taken] at c1
 rw [hC_made] at c2
 have f1' := hh.frozen 136
 have HB := (hh.setCell 136 (.int .u64 (n' : Int))).to (hC_take s t n n')
 have CV := (Chg.refl w [h]).setIn (k := h) (by simp) 136 (.int .u64 (n' : Int))
 go_enter Tryz.func96, Tryz.ntmps96
 by_cases hr0 : r = 0
 · subst hr0
   have hcat : cat t 0 f = f := by funext j; unfold cat; rw [if_neg (by omega), Nat.sub_zero]
   rw [hcat, Nat.zero_add]
   have BB := hb.chg CV (by simpa using hgh)
   go_wp2_with fail
   go_loopw [1] (fun b wr => ∃ i o' c' R : Nat, R + 128 * i = m ∧ b = .slice (some ⟨g, o', none⟩) R c' ∧ R ≤ c' ∧ c' ≤ 9223372036854775807 ∧ Bs wr g o' R (fun j => f (128 * i + j)) ∧ Blk wr h (hC (run k s f i) t n') 200 ∧ Chg w wr [h]) (fun b _ => slen b)
   case atStart => exact ⟨0, o, c, m, by omega, rfl, hmc, hc, by simpa using BB, HB, CV⟩
   case round =>
     clear HB CV BB hmc hc
     obtain ⟨i, o', c', R, hR, rfl, hRc, hc', BB, HB, CV⟩ := hrel
     have us := run_lt (k := k) (u := f) hs i
     have hrn : run k s f (i + 1) = cmp k (run k s f i) fun j => f (128 * i + j) := rfl
     by_cases h8 : 128 ≤ R
     · have hI : (128 : Int) ≤ (R : Int) := by omega
       have hI2 : (128 : Int) ≤ (c' : Int) := by omega
       have hI3 : (R : Int) ≤ (c' : Int) := by omega
       go_wp2_with fail
       refine wp_region_held_drew (S := fun w' => Chg wr w' [h]) (by kernel_rfl) ((Chg.refl wr _).drew) (fun hHeld => ?_)
       refine tv ?_ 0 (some 58) rfl (fun w hSw => ?_) hHeld ?_; rotate_left; (· (go_simp; try with_reducible rfl)); try simp only [Act.put, sA]
       refine tv ?_ 1 (some 59) rfl (fun w hSw => ?_) hHeld ?_; rotate_left; (· (go_simp; try with_reducible rfl)); try simp only [Act.put, sA]
       refine tv ?_ 2 (some 60) rfl (fun w hSw => ?_) hHeld ?_; rotate_left; (· (go_simp; try with_reducible rfl)); try simp only [Act.put, sA]
       refine tv ?_ 3 (some 61) rfl (fun w hSw => ?_) hHeld ?_; rotate_left; (· (go_simp; try with_reducible rfl)); try simp only [Act.put, sA]
       refine tv (.slice (some ⟨g, o', none⟩) 128 c') 4 (some 62) rfl (fun w hSw => ?_) hHeld ?_
       · (go_simp; try with_reducible rfl)
       try simp only [Act.put, sA]
       refine wpAnyH_ready (rs := [5]) (by kernel_rfl) (by simp) ?_
       refine AllReadyH.cons (o := _) rfl (fun K hK => ?_) ?_
       ·
         go_simp
         refine (compress_s h g o' c' k _ (fun j => f (128 * i + j)) _ 200 _ (by omega) hc' (HKc.chg (CV.drew) (by simp; omega)) us (BB.drew.sub 0 128 (by omega) |> fun q => by simpa using q) HB.drew hz0).mono ?_
         rintro e v2 ⟨rfl, B2, k2⟩
         go_wp2_with fail
         refine hK.out _ _ (hHeld.trans1 k2) (fun hHeld => ?_)
         clear hK K
         try simp only [Act.put, sA]
         refine wpAnyH_done (by kernel_rfl) ?_ _
         have C2 := CV.trans1 hHeld
         have BB2 := BB.chg hHeld (by simpa using hgh)
         clear hHeld k2
         by_cases hcc : c' = 128
         · have hR8 : R = 128 := by omega
           subst hcc hR8
           go_wp2_with fail
           exact ⟨⟨i + 1, o', 0, 0, by omega, rfl, by omega, by omega, ⟨BB2.lt, fun j hj => by omega, fun j hj => by omega⟩, B2, C2⟩, by simp [slen]⟩
         · have hc8 : ¬ c' - 128 = 0 := by omega
           have BB3 := BB2.sub 128 (R - 128) (by omega)
           go_wp2_with fail
           refine ⟨⟨i + 1, o' + 128, c' - 128, R - 128, by omega, rfl, by omega, by omega, ⟨BB3.lt, fun j hj => ?_, fun j hj => ?_⟩, B2, C2⟩, by simp [slen]; omega⟩
           · have := BB3.bd j hj; rw [show 128 * (i + 1) + j = 128 * i + (128 + j) by omega]; exact this
           · have := BB3.cell j hj; rw [show 128 * (i + 1) + j = 128 * i + (128 + j) by omega]; exact this
       exact AllReadyH.nil
     · have hI : ¬ (128 : Int) ≤ (R : Int) := by omega
       have hRm : Hid (R = Nat.min R 128) := by show R = Nat.min R 128; simp [Nat.min_def]; omega
       have hI3 : (R : Int) ≤ (c' : Int) := by omega
       go_wp2_with (refine copy_y rfl (.tmp 69) (.tmp 70) 29 29 rfl 5 Tryz.underlying29 u8Info h 8 128 128 (some ⟨g, o', none⟩) R c' rfl rfl (vC 8 _) 128 t _ 200 HB 0 R (fun j => f (128 * i + j)) (fun _ => by rw [vC_size]) hRm.out (fun _ => ⟨g, o', rfl, BB.cell⟩) (by omega) ?_; intro v3 B3 k3)
       go_end0
       have hq : m / 128 = i := by omega
       have hr8 : m % 128 = R := by omega
       rw [hq, hr8]
       exact ⟨rfl, CV.trans1 k3, lay t 0 R (fun j => f (128 * i + j)), fun j hj => by unfold lay; rw [if_pos (by omega), Nat.sub_zero], lay_lt ht BB.bd, B3⟩
 · have hrI : (0 : Int) < (r : Int) := by omega
   have hrJ : (r : Int) ≤ 128 := by omega
   have e4 : IntKind.i64.wrap (r : Int) = (r : Int) := by rw [IntKind.wrap_i64]; omega
   have BB := hb.chg CV (by simpa using hgh)
   by_cases hq : m < 128 - r
   · have hmin : Hid (m = Nat.min m (128 - r)) := by show m = Nat.min m (128 - r); simp [Nat.min_def]; omega
     have e5 : IntKind.u64.wrap ((r : Int) + (m : Int)) = (r : Int) + (m : Int) := by rw [IntKind.wrap_u64]; omega
     have hI : (r : Int) + (m : Int) < 128 := by omega
     have hI3 : (m : Int) ≤ (c : Int) := by omega
     have hq1 : (r + m) / 128 = 0 := by omega
     have hq2 : (r + m) % 128 = r + m := by omega
     rw [hq1, hq2]
     have HF : Hid (m < 128 - r) := hq
     clear hq hq1 hq2
     have h8r : 8 + r = (vC 8 s).size + r := by rw [vC_size]
     have H8 : Hid (8 + r = (vC 8 s).size + r) := h8r
     clear h8r
     by_cases hcm : c = m
     · subst hcm
       go_wp2_with (refine copy_y rfl (.tmp 36) (.tmp 37) 29 29 rfl 5 Tryz.underlying29 u8Info h (8 + r) (128 - r) (128 - r) (some ⟨g, o, none⟩) c c rfl rfl (vC 8 s) 128 t _ 200 HB r c f (fun _ => H8.out) hmin.out (fun _ => ⟨g, o, rfl, BB.cell⟩) (by have := HF.out; omega) ?_; intro v1 B1 k1)
       refine bodyPost_ret (results_none rfl _ _ _) rfl ?_
       exact ⟨rfl, CV.trans1 k1, lay t r c f, fun j hj => lay_cat t f r _ j hj, lay_lt ht BB.bd, B1⟩
     · have hcm2 : ¬ c - m = 0 := by omega
       go_wp2_with (refine copy_y rfl (.tmp 36) (.tmp 37) 29 29 rfl 5 Tryz.underlying29 u8Info h (8 + r) (128 - r) (128 - r) (some ⟨g, o, none⟩) m c rfl rfl (vC 8 s) 128 t _ 200 HB r m f (fun _ => H8.out) hmin.out (fun _ => ⟨g, o, rfl, BB.cell⟩) (by have := HF.out; omega) ?_; intro v1 B1 k1)
       refine bodyPost_ret (results_none rfl _ _ _) rfl ?_
       exact ⟨rfl, CV.trans1 k1, lay t r m f, fun j hj => lay_cat t f r _ j hj, lay_lt ht BB.bd, B1⟩
   · obtain ⟨q, hqe⟩ : ∃ q, 128 - r = q := ⟨_, rfl⟩
     have hmin : Hid (q = Nat.min m (128 - r)) := by show q = min m (128 - r); omega
     have hqm : q ≤ m := by omega
     have hq0 : r + q = 128 := by omega
     have e5 : IntKind.u64.wrap ((r : Int) + (q : Int)) = 128 := by rw [IntKind.wrap_u64]; omega
     have e6 : IntKind.u64.wrap (q : Int) = (q : Int) := by rw [IntKind.wrap_u64]; omega
     have hI3 : (m : Int) ≤ (c : Int) := by omega
     have hI4 : (q : Int) ≤ (m : Int) := by omega
     have HQ : Hid (128 - r = q) := hqe
     have H8 : Hid (8 + r = (vC 8 s).size + r) := by show 8 + r = (vC 8 s).size + r; rw [vC_size]
     obtain ⟨t1, ht1⟩ : ∃ x, lay t r q f = x := ⟨_, rfl⟩
     have HT : Hid (lay t r q f = t1) := ht1
     have tl : ∀ j, j < 128 → t1 j < 256 := by rw [← ht1]; exact lay_lt ht fun j hj => hb.bd j (by omega)
     obtain ⟨s1, hs1⟩ : ∃ x, cmp k s t1 = x := ⟨_, rfl⟩
     have sl : ∀ i, i < 8 → U (s1 i) := by rw [← hs1]; exact fun i _ => cmp_lt _ _ _ i
     obtain ⟨f1, hf1⟩ : ∃ x, (fun j => f (q + j)) = x := ⟨_, rfl⟩
     have HF : Hid ((fun j => f (q + j)) = f1) := hf1
     have HS1 : Hid (cmp k s t1 = s1) := hs1
     have HRun : Hid (∀ i, run k s (cat t r f) (1 + i) = run k s1 f1 i) := by
       show ∀ i, run k s (cat t r f) (1 + i) = run k s1 f1 i
       intro i
       have a1 : run k s (cat t r f) 1 = s1 := by
         rw [← hs1]
         show cmp k s (fun j => cat t r f (128 * 0 + j)) = cmp k s t1
         refine cmp_congr fun j hj => ?_
         rw [← ht1]
         unfold cat lay
         by_cases hj2 : j < r
         · rw [if_pos (by omega), if_neg (by omega)]; congr 1; omega
         · rw [if_neg (by omega), if_pos (by omega)]; congr 1; omega
       rw [run_add, a1]
       congr 1
       rw [← hf1]
       funext j
       unfold cat
       rw [if_neg (by omega)]
       congr 1
       omega
     have HQ0 : Hid (r + q = 128) := hq0
     clear hq hqe ht1 hs1 hf1 hq0
     by_cases hcq : c = q
     · have hmq : m = q := by omega
       subst hmq hcq
       go_wp2_with (refine copy_y rfl (.tmp 36) (.tmp 37) 29 29 rfl 5 Tryz.underlying29 u8Info h (8 + r) (128 - r) (128 - r) (some ⟨g, o, none⟩) c c rfl rfl (vC 8 s) 128 t _ 200 HB r c f (fun _ => H8.out) hmin.out (fun _ => ⟨g, o, rfl, BB.cell⟩) (Nat.le_of_eq HQ0.out) ?_; rw [HT.out]; intro v1 B1 k1)
       refine wp_region_held_drew (S := fun w' => Chg v1 w' [h]) (by kernel_rfl) ((Chg.refl v1 _).drew) (fun hHeld => ?_)
       refine tv ?_ 0 (some 47) rfl (fun w hSw => ?_) hHeld ?_; rotate_left; (· (go_simp; try with_reducible rfl)); try simp only [Act.put, sA]
       refine tv ?_ 1 (some 48) rfl (fun w hSw => ?_) hHeld ?_; rotate_left; (· (go_simp; try with_reducible rfl)); try simp only [Act.put, sA]
       refine tv ?_ 2 (some 49) rfl (fun w hSw => ?_) hHeld ?_; rotate_left; (· (go_simp; try with_reducible rfl)); try simp only [Act.put, sA]
       refine tv ?_ 3 (some 50) rfl (fun w hSw => ?_) hHeld ?_; rotate_left; (· (go_simp; try with_reducible rfl)); try simp only [Act.put, sA]
       refine tv ?_ 4 (some 51) rfl (fun w hSw => ?_) hHeld ?_; rotate_left; (· (go_simp; try with_reducible rfl)); try simp only [Act.put, sA]
       refine tv ?_ 5 (some 52) rfl (fun w hSw => ?_) hHeld ?_; rotate_left; (· (go_simp; try with_reducible rfl)); try simp only [Act.put, sA]
       refine tv (.slice (some ⟨h, 8, none⟩) 128 128) 6 (some 53) rfl (fun w hSw => ?_) hHeld ?_
       · (go_simp; try with_reducible rfl)
       try simp only [Act.put, sA]
       refine wpAnyH_ready (rs := [7]) (by kernel_rfl) (by simp) ?_
       refine AllReadyH.cons (o := _) rfl (fun K hK => ?_) ?_
       ·
         go_simp
         refine (compress_s h h 8 128 k s t1 _ 200 _ (by omega) (by omega) (HKc.chg ((CV.trans1 k1).drew) (by simp; omega)) hs ((tail_Bs B1 tl).drew) B1.drew hz0).mono ?_
         rintro e v2 ⟨rfl, B2, k2⟩
         rw [HS1.out] at B2
         go_wp2_with fail
         refine hK.out _ _ (hHeld.trans1 k2) (fun hHeld => ?_)
         clear hK K
         try simp only [Act.put, sA]
         refine wpAnyH_done (by kernel_rfl) ?_ _
         replace CV := (CV.trans1 k1).trans1 hHeld
         replace BB := (BB.chg k1 (by simpa using hgh)).chg hHeld (by simpa using hgh)
         clear hHeld k2 k1 B1 HB
         have HB := B2
         clear B2
         replace BB : Bs v2 g o 0 f1 := ⟨BB.lt, fun j hj => by omega, fun j hj => by omega⟩
         go_wp2_with fail
         go_loopw [1] (fun b wr => ∃ i o' c' R : Nat, R + 128 * i = 0 ∧ b = .slice (some ⟨g, o', none⟩) R c' ∧ R ≤ c' ∧ c' ≤ 9223372036854775807 ∧ Bs wr g o' R (fun j => f1 (128 * i + j)) ∧ Blk wr h (hC (run k s1 f1 i) t1 n') 200 ∧ Chg w wr [h]) (fun b _ => slen b)
         case atStart => exact ⟨0, o, 0, 0, by omega, rfl, (Nat.le_refl 0), (by omega), by simpa using BB, HB, CV⟩
         case round =>
           clear HB CV BB
           obtain ⟨i, o', c', R, hR, rfl, hRc, hc', BB, HB, CV⟩ := hrel
           have us := run_lt (k := k) (u := f1) sl i
           have hrn : run k s1 f1 (i + 1) = cmp k (run k s1 f1 i) fun j => f1 (128 * i + j) := rfl
           by_cases h8 : 128 ≤ R
           · have hI : (128 : Int) ≤ (R : Int) := by omega
             have hI2 : (128 : Int) ≤ (c' : Int) := by omega
             have hI3 : (R : Int) ≤ (c' : Int) := by omega
             go_wp2_with fail
             refine wp_region_held_drew (S := fun w' => Chg wr w' [h]) (by kernel_rfl) ((Chg.refl wr _).drew) (fun hHeld => ?_)
             refine tv ?_ 0 (some 58) rfl (fun w hSw => ?_) hHeld ?_; rotate_left; (· (go_simp; try with_reducible rfl)); try simp only [Act.put, sA]
             refine tv ?_ 1 (some 59) rfl (fun w hSw => ?_) hHeld ?_; rotate_left; (· (go_simp; try with_reducible rfl)); try simp only [Act.put, sA]
             refine tv ?_ 2 (some 60) rfl (fun w hSw => ?_) hHeld ?_; rotate_left; (· (go_simp; try with_reducible rfl)); try simp only [Act.put, sA]
             refine tv ?_ 3 (some 61) rfl (fun w hSw => ?_) hHeld ?_; rotate_left; (· (go_simp; try with_reducible rfl)); try simp only [Act.put, sA]
             refine tv (.slice (some ⟨g, o', none⟩) 128 c') 4 (some 62) rfl (fun w hSw => ?_) hHeld ?_
             · (go_simp; try with_reducible rfl)
             try simp only [Act.put, sA]
             refine wpAnyH_ready (rs := [5]) (by kernel_rfl) (by simp) ?_
             refine AllReadyH.cons (o := _) rfl (fun K hK => ?_) ?_
             ·
               go_simp
               refine (compress_s h g o' c' k _ (fun j => f1 (128 * i + j)) _ 200 _ (by omega) hc' (HKc.chg (CV.drew) (by simp; omega)) us (BB.drew.sub 0 128 (by omega) |> fun q => by simpa using q) HB.drew hz0).mono ?_
               rintro e v2 ⟨rfl, B2, k2⟩
               go_wp2_with fail
               refine hK.out _ _ (hHeld.trans1 k2) (fun hHeld => ?_)
               clear hK K
               try simp only [Act.put, sA]
               refine wpAnyH_done (by kernel_rfl) ?_ _
               have C2 := CV.trans1 hHeld
               have BB2 := BB.chg hHeld (by simpa using hgh)
               clear hHeld k2
               by_cases hcc : c' = 128
               · have hR8 : R = 128 := by omega
                 subst hcc hR8
                 go_wp2_with fail
                 exact ⟨⟨i + 1, o', 0, 0, by omega, rfl, by omega, by omega, ⟨BB2.lt, fun j hj => by omega, fun j hj => by omega⟩, B2, C2⟩, by simp [slen]⟩
               · have hc8 : ¬ c' - 128 = 0 := by omega
                 have BB3 := BB2.sub 128 (R - 128) (by omega)
                 go_wp2_with fail
                 refine ⟨⟨i + 1, o' + 128, c' - 128, R - 128, by omega, rfl, by omega, by omega, ⟨BB3.lt, fun j hj => ?_, fun j hj => ?_⟩, B2, C2⟩, by simp [slen]; omega⟩
                 · have := BB3.bd j hj; rw [show 128 * (i + 1) + j = 128 * i + (128 + j) by omega]; exact this
                 · have := BB3.cell j hj; rw [show 128 * (i + 1) + j = 128 * i + (128 + j) by omega]; exact this
             exact AllReadyH.nil
           · have hI : ¬ (128 : Int) ≤ (R : Int) := by omega
             have hRm : Hid (R = Nat.min R 128) := by show R = Nat.min R 128; simp [Nat.min_def]; omega
             have hI3 : (R : Int) ≤ (c' : Int) := by omega
             go_wp2_with (refine copy_y rfl (.tmp 69) (.tmp 70) 29 29 rfl 5 Tryz.underlying29 u8Info h 8 128 128 (some ⟨g, o', none⟩) R c' rfl rfl (vC 8 _) 128 t1 _ 200 HB 0 R (fun j => f1 (128 * i + j)) (fun _ => by rw [vC_size]) hRm.out (fun _ => ⟨g, o', rfl, BB.cell⟩) (by omega) ?_; intro v3 B3 k3)
             go_end0
             have hq0 := HQ0.out
             have hq1 : (r + c) / 128 = 1 + i := by omega
             have hq2 : (r + c) % 128 = R := by omega
             rw [hq1, hq2, HRun.out i]
             refine ⟨rfl, CV.trans1 k3, lay t1 0 R (fun j => f1 (128 * i + j)), fun j hj => ?_, lay_lt tl BB.bd, B3⟩
             unfold lay cat
             rw [if_pos (by omega), if_neg (by omega), Nat.sub_zero, ← HF.out]
             show f (c + (128 * i + j)) = _
             congr 1
             omega
       exact AllReadyH.nil
     · have hcq2 : ¬ c - q = 0 := by omega
       go_wp2_with (refine copy_y rfl (.tmp 36) (.tmp 37) 29 29 rfl 5 Tryz.underlying29 u8Info h (8 + r) (128 - r) (128 - r) (some ⟨g, o, none⟩) m c rfl rfl (vC 8 s) 128 t _ 200 HB r q f (fun _ => H8.out) hmin.out (fun _ => ⟨g, o, rfl, fun j hj => BB.cell j (by omega)⟩) (Nat.le_of_eq HQ0.out) ?_; rw [HT.out]; intro v1 B1 k1)
       refine wp_region_held_drew (S := fun w' => Chg v1 w' [h]) (by kernel_rfl) ((Chg.refl v1 _).drew) (fun hHeld => ?_)
       refine tv ?_ 0 (some 47) rfl (fun w hSw => ?_) hHeld ?_; rotate_left; (· (go_simp; try with_reducible rfl)); try simp only [Act.put, sA]
       refine tv ?_ 1 (some 48) rfl (fun w hSw => ?_) hHeld ?_; rotate_left; (· (go_simp; try with_reducible rfl)); try simp only [Act.put, sA]
       refine tv ?_ 2 (some 49) rfl (fun w hSw => ?_) hHeld ?_; rotate_left; (· (go_simp; try with_reducible rfl)); try simp only [Act.put, sA]
       refine tv ?_ 3 (some 50) rfl (fun w hSw => ?_) hHeld ?_; rotate_left; (· (go_simp; try with_reducible rfl)); try simp only [Act.put, sA]
       refine tv ?_ 4 (some 51) rfl (fun w hSw => ?_) hHeld ?_; rotate_left; (· (go_simp; try with_reducible rfl)); try simp only [Act.put, sA]
       refine tv ?_ 5 (some 52) rfl (fun w hSw => ?_) hHeld ?_; rotate_left; (· (go_simp; try with_reducible rfl)); try simp only [Act.put, sA]
       refine tv (.slice (some ⟨h, 8, none⟩) 128 128) 6 (some 53) rfl (fun w hSw => ?_) hHeld ?_
       · (go_simp; try with_reducible rfl)
       try simp only [Act.put, sA]
       refine wpAnyH_ready (rs := [7]) (by kernel_rfl) (by simp) ?_
       refine AllReadyH.cons (o := _) rfl (fun K hK => ?_) ?_
       ·
         go_simp
         refine (compress_s h h 8 128 k s t1 _ 200 _ (by omega) (by omega) (HKc.chg ((CV.trans1 k1).drew) (by simp; omega)) hs ((tail_Bs B1 tl).drew) B1.drew hz0).mono ?_
         rintro e v2 ⟨rfl, B2, k2⟩
         rw [HS1.out] at B2
         go_wp2_with fail
         refine hK.out _ _ (hHeld.trans1 k2) (fun hHeld => ?_)
         clear hK K
         try simp only [Act.put, sA]
         refine wpAnyH_done (by kernel_rfl) ?_ _
         replace CV := (CV.trans1 k1).trans1 hHeld
         replace BB := (BB.chg k1 (by simpa using hgh)).chg hHeld (by simpa using hgh)
         clear hHeld k2 k1 B1 HB
         have HB := B2
         clear B2
         replace BB : Bs v2 g (o + q) (m - q) f1 := by
           have h := BB.sub q (m - q) (by omega)
           rw [HF.out] at h
           exact h
         have hm1 : m - q ≤ c - q := by omega
         have hc1 : c - q ≤ 9223372036854775807 := by omega
         go_wp2_with fail
         go_loopw [1] (fun b wr => ∃ i o' c' R : Nat, R + 128 * i = (m - q) ∧ b = .slice (some ⟨g, o', none⟩) R c' ∧ R ≤ c' ∧ c' ≤ 9223372036854775807 ∧ Bs wr g o' R (fun j => f1 (128 * i + j)) ∧ Blk wr h (hC (run k s1 f1 i) t1 n') 200 ∧ Chg w wr [h]) (fun b _ => slen b)
         case atStart => exact ⟨0, (o + q), (c - q), (m - q), by omega, rfl, hm1, hc1, by simpa using BB, HB, CV⟩
         case round =>
           clear HB CV BB hm1 hc1
           obtain ⟨i, o', c', R, hR, rfl, hRc, hc', BB, HB, CV⟩ := hrel
           have us := run_lt (k := k) (u := f1) sl i
           have hrn : run k s1 f1 (i + 1) = cmp k (run k s1 f1 i) fun j => f1 (128 * i + j) := rfl
           by_cases h8 : 128 ≤ R
           · have hI : (128 : Int) ≤ (R : Int) := by omega
             have hI2 : (128 : Int) ≤ (c' : Int) := by omega
             have hI3 : (R : Int) ≤ (c' : Int) := by omega
             go_wp2_with fail
             refine wp_region_held_drew (S := fun w' => Chg wr w' [h]) (by kernel_rfl) ((Chg.refl wr _).drew) (fun hHeld => ?_)
             refine tv ?_ 0 (some 58) rfl (fun w hSw => ?_) hHeld ?_; rotate_left; (· (go_simp; try with_reducible rfl)); try simp only [Act.put, sA]
             refine tv ?_ 1 (some 59) rfl (fun w hSw => ?_) hHeld ?_; rotate_left; (· (go_simp; try with_reducible rfl)); try simp only [Act.put, sA]
             refine tv ?_ 2 (some 60) rfl (fun w hSw => ?_) hHeld ?_; rotate_left; (· (go_simp; try with_reducible rfl)); try simp only [Act.put, sA]
             refine tv ?_ 3 (some 61) rfl (fun w hSw => ?_) hHeld ?_; rotate_left; (· (go_simp; try with_reducible rfl)); try simp only [Act.put, sA]
             refine tv (.slice (some ⟨g, o', none⟩) 128 c') 4 (some 62) rfl (fun w hSw => ?_) hHeld ?_
             · (go_simp; try with_reducible rfl)
             try simp only [Act.put, sA]
             refine wpAnyH_ready (rs := [5]) (by kernel_rfl) (by simp) ?_
             refine AllReadyH.cons (o := _) rfl (fun K hK => ?_) ?_
             ·
               go_simp
               refine (compress_s h g o' c' k _ (fun j => f1 (128 * i + j)) _ 200 _ (by omega) hc' (HKc.chg (CV.drew) (by simp; omega)) us (BB.drew.sub 0 128 (by omega) |> fun q => by simpa using q) HB.drew hz0).mono ?_
               rintro e v2 ⟨rfl, B2, k2⟩
               go_wp2_with fail
               refine hK.out _ _ (hHeld.trans1 k2) (fun hHeld => ?_)
               clear hK K
               try simp only [Act.put, sA]
               refine wpAnyH_done (by kernel_rfl) ?_ _
               have C2 := CV.trans1 hHeld
               have BB2 := BB.chg hHeld (by simpa using hgh)
               clear hHeld k2
               by_cases hcc : c' = 128
               · have hR8 : R = 128 := by omega
                 subst hcc hR8
                 go_wp2_with fail
                 exact ⟨⟨i + 1, o', 0, 0, by omega, rfl, by omega, by omega, ⟨BB2.lt, fun j hj => by omega, fun j hj => by omega⟩, B2, C2⟩, by simp [slen]⟩
               · have hc8 : ¬ c' - 128 = 0 := by omega
                 have BB3 := BB2.sub 128 (R - 128) (by omega)
                 go_wp2_with fail
                 refine ⟨⟨i + 1, o' + 128, c' - 128, R - 128, by omega, rfl, by omega, by omega, ⟨BB3.lt, fun j hj => ?_, fun j hj => ?_⟩, B2, C2⟩, by simp [slen]; omega⟩
                 · have := BB3.bd j hj; rw [show 128 * (i + 1) + j = 128 * i + (128 + j) by omega]; exact this
                 · have := BB3.cell j hj; rw [show 128 * (i + 1) + j = 128 * i + (128 + j) by omega]; exact this
             exact AllReadyH.nil
           · have hI : ¬ (128 : Int) ≤ (R : Int) := by omega
             have hRm : Hid (R = Nat.min R 128) := by show R = Nat.min R 128; simp [Nat.min_def]; omega
             have hI3 : (R : Int) ≤ (c' : Int) := by omega
             go_wp2_with (refine copy_y rfl (.tmp 69) (.tmp 70) 29 29 rfl 5 Tryz.underlying29 u8Info h 8 128 128 (some ⟨g, o', none⟩) R c' rfl rfl (vC 8 _) 128 t1 _ 200 HB 0 R (fun j => f1 (128 * i + j)) (fun _ => by rw [vC_size]) hRm.out (fun _ => ⟨g, o', rfl, BB.cell⟩) (by omega) ?_; intro v3 B3 k3)
             go_end0
             have hq0 := HQ0.out
             have hq1 : (r + m) / 128 = 1 + i := by omega
             have hq2 : (r + m) % 128 = R := by omega
             rw [hq1, hq2, HRun.out i]
             refine ⟨rfl, CV.trans1 k3, lay t1 0 R (fun j => f1 (128 * i + j)), fun j hj => ?_, lay_lt tl BB.bd, B3⟩
             unfold lay cat
             rw [if_pos (by omega), if_neg (by omega), Nat.sub_zero, ← HF.out]
             show f (q + (128 * i + j)) = _
             congr 1
             omega
       exact AllReadyH.nil
end Go.Proofs.YtgjclegpnbjlkaaGreatDoor
