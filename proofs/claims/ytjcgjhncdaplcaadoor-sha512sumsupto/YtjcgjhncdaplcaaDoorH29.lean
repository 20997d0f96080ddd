/- rimeref03.Join and Short, sha512.Short; == on hashes. -/
import Derived.Test.YtjcgjhncdaplcaaDoorH24
import Derived.Test.YtjcgjhncdaplcaaDoorH15
set_option linter.unusedVariables false
set_option linter.unusedSimpArgs false
set_option linter.unnecessarySimpa false
namespace Go.Proofs.YtjcgjhncdaplcaaDoor
open Go.RowKit

theorem HHInfo : (Tryd.prog.info? 47).map (·.size) = some 32 := by kernel_rfl
/-- A hash of zeros. -/
def zh : Array Value := #[.int .u8 0, .int .u8 0, .int .u8 0, .int .u8 0, .int .u8 0, .int .u8 0, .int .u8 0, .int .u8 0, .int .u8 0, .int .u8 0, .int .u8 0, .int .u8 0, .int .u8 0, .int .u8 0, .int .u8 0, .int .u8 0, .int .u8 0, .int .u8 0, .int .u8 0, .int .u8 0, .int .u8 0, .int .u8 0, .int .u8 0, .int .u8 0, .int .u8 0, .int .u8 0, .int .u8 0, .int .u8 0, .int .u8 0, .int .u8 0, .int .u8 0, .int .u8 0]
theorem zHh : zh = yC 32 (fun _ => 0) := by kernel_rfl
def eqh (f g : Nat → Nat) : Bool := (List.range 32).all fun i => ((f i : Nat) : Int) == ((g i : Nat) : Int)
theorem eqh_self (f : Nat → Nat) : eqh f f = true := by simp [eqh]
theorem eq_hash (f g : Nat → Nat) (w : World) : (Op.equalIn 10000 47 (.agg (yC 32 f)) (.agg (yC 32 g))).run Tryd.prog w = .ok (eqh f g) w := by
  obtain ⟨i, hi⟩ := u8InfoE
  rw [show (10000 : Nat) = 9998 + 1 + 1 from rfl, run_equalIn_array w 9999 _ _ Tryd.underlying47 hi, u8CellsE]
  exact eqItems_ints w 9998 Tryd.underlying5 _ _ (fun i => ((f i : Nat) : Int)) (fun i => ((g i : Nat) : Int)) (List.range 32) (fun j hj => ⟨yC_get 32 f j (by simpa using hj), yC_get 32 g j (by simpa using hj)⟩)
theorem mJ (K i : Nat) (h : i < K) : (K - intOf (.int .i64 ((i : Int) + 1))).toNat < (K - intOf (.int .i64 (i : Int))).toNat := by simp [intOf]; omega
theorem Ps.frm {w : World} {v : Value} {k : Nat} {pv : Nat → Value} {pn : Nat → Nat} {pf : Nat → Nat → Nat} (h : Ps w v k pv pn pf) : k ≤ 9223372036854775807 ∧ ∃ p c, v = .slice p k c ∧ ∀ i, i < k → ∃ g o, p = some ⟨g, o, none⟩ ∧ g < w.heap.size ∧ w.cell? ⟨g, o + i, none⟩ = some (pv i) := by
  rcases h.2 with ⟨rfl, rfl⟩ | ⟨g, o, cap, rfl, h1, h2, h3, h4⟩
  · exact ⟨by omega, none, 0, rfl, fun i hi => by omega⟩
  · exact ⟨by omega, _, _, rfl, fun i hi => ⟨g, o, rfl, h3, h4 i hi⟩⟩
theorem cell_chg1 {w w' : World} {g k : Nat} {v : Value} (h : w.cell? ⟨g, k, none⟩ = some v) (hg : g < w.heap.size) (hc : Chg w w' []) : w'.cell? ⟨g, k, none⟩ = some v := by
  rw [← h]
  simp only [World.cell?, hc.block g hg (by simp)]
set_option maxHeartbeats 8000000 in
set_option maxRecDepth 100000 in
theorem Join_r (v : Value) (k : Nat) (pv : Nat → Value) (pn : Nat → Nat) (pf : Nat → Nat → Nat) (w : World) (hp : Ps w v k pv pn pf) (hm : cN pn k ≤ 1048576) :
    Calls Tryd.prog 13 #[v] w fun e w' => e = .returned (.agg (yC 64 (sha (cF pn pf k) (cN pn k)))) ∧ Chg w w' [] := by
  obtain ⟨hK, vp, vc, rfl, hc⟩ := hp.frm
  have HSE : Hid (∀ i, i < k → Se w (pv i) (pn i) (pf i)) := hp.1
  have HCE : Hid (∀ i, i < k → ∃ g o, vp = some ⟨g, o, none⟩ ∧ g < w.heap.size ∧ w.cell? ⟨g, o + i, none⟩ = some (pv i)) := hc
  have HKK : Hid (k ≤ 9223372036854775807) := hK
  have HBU : Hid (cN pn k ≤ 1048576) := hm
  have GB := Blk.new w z64 42
  have C0 : Chg w (w.alloc (.cells z64 42)) [] := (Chg.refl w []).alloc _
  have O0 : Own (w.alloc (.cells z64 42)) (w.heap.size + 1) (.slice none 0 0) (cN pn 0) (cF pn pf 0) := Own.nil _ _ _
  have HW1 : Hid (w.heap.size + 1 ≤ (w.alloc (.cells z64 42)).heap.size) := by show w.heap.size + 1 ≤ _; simp
  clear hp hc hK hm
  go_enter Tryd.func13, Tryd.ntmps13
  go_wp2_with fail
  try (change Code.wp _ _ _ _ (w.alloc (.cells z64 42)))
  generalize w.alloc (.cells z64 42) = w0 at *
  go_loopw [4, 3] (fun t ta wr => ∃ i : Nat, i ≤ k ∧ t = .int .i64 (i : Int) ∧ Own wr (w.heap.size + 1) ta (cN pn i) (cF pn pf i) ∧ Blk wr w.heap.size z64 42 ∧ w.heap.size + 1 ≤ wr.heap.size ∧ Chg w wr []) (fun t _ _ => (k - intOf t).toNat)
  case atStart => exact ⟨0, Nat.zero_le _, rfl, O0, GB, HW1.out, C0⟩
  case round =>
    clear O0 GB C0 HW1
    obtain ⟨i, hi, rfl, OA, GB, hws, C⟩ := hrel
    by_cases h : i < k
    · have hI : (i : Int) < (k : Int) := by omega
      have hI0 : (0 : Int) ≤ (i : Int) := by omega
      have e1 : IntKind.i64.wrap ((i : Int) + 1) = (i : Int) + 1 := by have := HKK.out; rw [IntKind.wrap_i64]; omega
      have HMI : Hid _ := mJ k i h
      have HI1 : Hid (i + 1 ≤ k) := h
      have SE1 := (HSE.out i h).chg C
      obtain ⟨g, o, rfl, hg, hc1⟩ := HCE.out i h
      have cx := cell_chg1 hc1 hg C
      have HNM : Hid (cN pn i + pn i ≤ 211106232532992) := Nat.le_trans (show cN pn (i + 1) ≤ 1048576 from Nat.le_trans (cN_mono pn h) HBU.out) (by decide)
      have HWS : Hid (w.heap.size + 1 ≤ wr.heap.size) := hws
      have HOB : Hid (∀ x ∈ ob u3, w.heap.size + 1 ≤ x) := fun x hx => (OA.ob_ge x hx).1
      have KEY : Hid (∀ a1 w1, Own w1 (w.heap.size + 1) a1 (cN pn i + pn i) (cat (cF pn pf i) (cN pn i) (pf i)) → Own w1 (w.heap.size + 1) a1 (cN pn (i + 1)) (cF pn pf (i + 1))) := fun a1 w1 h => h
      obtain ⟨bv, hbv⟩ : ∃ x, pv i = x := ⟨_, rfl⟩
      rw [hbv] at SE1 cx
      obtain ⟨cn, hcn⟩ : ∃ x, cN pn i = x := ⟨_, rfl⟩
      obtain ⟨cf, hcf⟩ : ∃ x, cF pn pf i = x := ⟨_, rfl⟩
      obtain ⟨bn, hbn⟩ : ∃ x, pn i = x := ⟨_, rfl⟩
      obtain ⟨bf, hbf⟩ : ∃ x, pf i = x := ⟨_, rfl⟩
      rw [hcn, hcf] at OA
      rw [hcn, hcf, hbn, hbf] at KEY
      rw [hcn, hbn] at HNM
      rw [hbn, hbf] at SE1
      clear hi h hg hc1 hws HCE HSE hbv hcn hcf hbn hbf
      go_wp2_with (with_reducible refine append_e ?_ (.tmp 11) (.tmp 15) ?_ (w.heap.size + 1) u3 bv cn bn cf bf ?_ ?_ OA SE1 HNM.out HWS.out ?_
                   · rfl
                   · rfl
                   · rfl
                   · rfl
                   intro a1 w1 O1 k1)
      have O2 := KEY.out a1 w1 O1
      exact ⟨⟨i + 1, HI1.out, by go_num, O2, GB.chg k1 (fun hx => by have := HOB.out _ hx; omega), Nat.le_trans HWS.out k1.size, C.trans k1 (fun x hx => Or.inr (by have := HOB.out _ hx; omega))⟩, HMI.out⟩
    · obtain rfl : i = k := by omega
      have hI : ¬ (i : Int) < (i : Int) := by omega
      have HSU : Hid (∀ w v, Sl w v (cN pn i) (cF pn pf i) → Calls Tryd.prog 11 #[v] w fun e w' => e = .returned (.agg (yC 64 (sha (cF pn pf i) (cN pn i)))) ∧ Chg w w' []) := fun w v h => Sum_r v _ _ w (Nat.le_trans HBU.out (by decide)) h
      obtain ⟨cd, hcd⟩ : ∃ c, yC 64 (sha (cF pn pf i) (cN pn i)) = c := ⟨_, rfl⟩
      have HCD : Hid (cd = yC 64 (sha (cF pn pf i) (cN pn i))) := hcd.symm
      have HZ4 : Hid (cd.size = 64) := by show cd.size = 64; rw [← hcd, yC_size]
      have HON : Hid (cd.all (·.oneCell') = true) := by show cd.all (·.oneCell') = true; rw [← hcd]; exact yC_one _ _
      rw [hcd] at HSU
      clear hcd
      go_wp2_with fail
      refine (HSU.out _ _ OA.sl).mono ?_
      rintro e w1 ⟨rfl, k1⟩
      have G1 := GB.chg k1 (by simp)
      go_wp2_with (refine wpList_store_row rfl 42 _ _ rfl w.heap.size cd rfl rfl 42 _ G1 (by rw [HZ4.out]; exact DInfo) (by rw [HZ4.out]; rfl) HON.out ?_)
      exact bodyPost_ret (results_cell_row Tryd.results13 _ _ w.heap.size 42 cd (0, 0) _ rfl (G1.setRow cd) Tryd.underlying42 rfl (by rw [HZ4.out]; exact DInfo)) rfl ⟨by rw [HCD.out], (C.trans1 k1).setRowNew (Nat.le_refl _) _⟩
set_option maxHeartbeats 4000000 in
set_option maxRecDepth 100000 in
theorem Short_s (v : Value) (f : Nat → Nat) (w : World) (HJ : Hid (∀ W, Chg w W [] → Calls Tryd.prog 12 #[v] W fun e w' => e = .returned (.agg (yC 64 f)) ∧ Chg W w' [])) :
    Calls Tryd.prog 14 #[v] w fun e w' => e = .returned (.agg (yC 32 f)) ∧ Chg w w' [] := by
  have GB : Blk ((w.alloc (.cells zh 47)).alloc (.cells zh 47)) w.heap.size zh 47 := (Blk.new _ _ _).alloc _
  have HB : Blk ((w.alloc (.cells zh 47)).alloc (.cells zh 47)) (w.heap.size + 1) zh 47 := by have h := Blk.new (w.alloc (.cells zh 47)) zh 47; simpa using h
  have C : Chg w ((w.alloc (.cells zh 47)).alloc (.cells zh 47)) [] := ((Chg.refl w []).alloc _).alloc _
  have HL32 : Hid ((#[] ++ (yC 32 (lay (fun _ => 0) 0 32 f) ++ #[]) : Array Value) = yC 32 f) := by
    show (#[] ++ (yC 32 (lay (fun _ => 0) 0 32 f) ++ #[]) : Array Value) = yC 32 f
    rw [Array.empty_append, Array.append_empty]
    exact yC_eq fun j hj => by unfold lay; rw [if_pos (by omega), Nat.sub_zero]
  have HZ : Hid ((yC 32 f).size = 32) := yC_size _ _
  have HON : Hid ((yC 32 f).all (·.oneCell') = true) := yC_one _ _
  have HZD : Hid ((yC 64 f).size = 64) := yC_size _ _
  have HOD : Hid ((yC 64 f).all (·.oneCell') = true) := yC_one _ _
  have HDG : Hid (∀ j, j < 64 → (yC 64 f)[j]? = some (.int .u8 ((f j : Nat) : Int))) := fun j hj => yC_get 64 f j hj
  obtain ⟨ch, hch⟩ : ∃ c, yC 32 f = c := ⟨_, rfl⟩
  obtain ⟨cd, hcd⟩ : ∃ c, yC 64 f = c := ⟨_, rfl⟩
  have HCH : Hid (ch = yC 32 f) := hch.symm
  rw [hch] at HL32 HZ HON
  rw [hcd] at HJ HZD HOD HDG
  have HWW : Hid (w.heap.size < (((w.alloc (.cells zh 47)).alloc (.cells zh 47))).heap.size) := GB.lt
  clear hch hcd
  go_enter Tryd.func14, Tryd.ntmps14
  go_wp2_with fail
  try (change Calls Tryd.prog _ _ ((w.alloc (.cells zh 47)).alloc (.cells zh 47)) _)
  generalize ((w.alloc (.cells zh 47)).alloc (.cells zh 47)) = w0 at *
  refine (HJ.out _ C).mono ?_
  rintro e w1 ⟨rfl, k1⟩
  replace GB := GB.chg k1 (by simp)
  replace HB := HB.chg k1 (by simp)
  replace C := C.trans1 k1
  have HWS : Hid (w.heap.size + 1 < w1.heap.size) := HB.lt
  clear k1
  have DN := Blk.new w1 z64 42
  have KD : Chg w1 ((w1.alloc (.cells z64 42)).setRow w1.heap.size cd) [] := ((Chg.refl w1 []).alloc _).setRowNew (Nat.le_refl _) _
  have DB := DN.setRow cd
  replace GB := GB.chg KD (by simp)
  replace HB := HB.chg KD (by simp)
  replace C := C.trans1 KD
  clear KD
  go_wp2_with (refine wpList_store_row rfl 42 _ _ rfl w1.heap.size cd rfl rfl 42 _ DN (by rw [HZD.out]; exact DInfo) (by rw [HZD.out]; rfl) HOD.out ?_
               try (change wpList Tryd.prog _ _ _ _ ((w1.alloc (.cells z64 42)).setRow w1.heap.size cd)))
  try (change Code.wp _ _ _ _ ((w1.alloc (.cells z64 42)).setRow w1.heap.size cd))
  have HNE : Hid (¬ w.heap.size = w.heap.size + 1) := by show ¬ w.heap.size = w.heap.size + 1; omega
  have HBW : Hid (w.heap.size ≤ w.heap.size + 1) := by show w.heap.size ≤ w.heap.size + 1; omega
  generalize ((w1.alloc (.cells z64 42)).setRow w1.heap.size cd) = y at *
  generalize w.heap.size + 1 = hb at *
  generalize w1.heap.size = db at *
  have HBG : Hid (w.heap.size ≤ w.heap.size) := Nat.le_refl _
  obtain ⟨gd, hgd⟩ : ∃ b, w.heap.size = b := ⟨_, rfl⟩
  have HBG : Hid (w.heap.size ≤ gd) := Nat.le_of_eq hgd
  rw [hgd] at GB HNE
  rw [hgd]
  clear hgd
  have HCD : Hid (∀ j, j < 32 → y.drew.cell? ⟨db, 0 + j, none⟩ = some (.int .u8 ((f j : Nat) : Int))) := fun j hj => by rw [Nat.zero_add]; exact (DB.drew.cell j).trans (HDG.out j (by omega))
  replace HB : Blk y hb (#[] ++ (yC 32 (fun _ => 0) ++ #[])) 47 := HB.to (by rw [Array.empty_append, Array.append_empty]; exact zHh)
  refine wp_region_held_drew (S := fun w' => Chg y w' [hb]) (by kernel_rfl) ((Chg.refl y _).drew) (fun hHeld => ?_)
  refine take_val (v := (.slice (some ⟨hb, 0, none⟩) 32 32)) 0 (some 7) rfl (by kernel_rfl) (by kernel_rfl) (by kernel_rfl) (fun _ _ _ h => h) rfl rfl (fun w hSw => ?_) hHeld ?_
  · (go_simp; try with_reducible rfl)
  try simp only [Act.put, List.setIfInBounds_toArray, List.set_cons_zero, List.set_cons_succ]
  refine take_val (v := (.slice (some ⟨db, 0, none⟩) 64 64)) 1 (some 8) rfl (by kernel_rfl) (by kernel_rfl) (by kernel_rfl) (fun _ _ _ h => h) rfl rfl (fun w hSw => ?_) hHeld ?_
  · (go_simp; try with_reducible rfl)
  try simp only [Act.put, List.setIfInBounds_toArray, List.set_cons_zero, List.set_cons_succ]
  refine wpAnyH_ready (rs := [2]) (by kernel_rfl) (by simp) ?_
  refine AllReadyH.cons (o := _) rfl (fun K hK => ?_) ?_
  ·
    rw [if_pos (by rfl)]
    refine copy_yo (.tmp 7) (.tmp 8) 22 22 rfl 5 Tryd.underlying22 u8Info hb 0 32 32 (some ⟨db, 0, none⟩) 64 64 rfl rfl #[] 32 (fun _ => 0) #[] 47 HB.drew 0 32 f (fun _ => rfl) rfl (fun _ => ⟨db, 0, rfl, HCD.out⟩) (by decide) ?_
    intro x1 HB1 k1
    change K (Act.put _ (some 9) _) _
    refine hK.out _ _ (hHeld.trans1 k1) (fun hHeld => ?_)
    clear hK K
    try simp only [Act.put, List.setIfInBounds_toArray, List.set_cons_zero, List.set_cons_succ]
    refine wpAnyH_done (by kernel_rfl) ?_ _
    rw [HL32.out] at HB1
    replace C := (C.trans1 (Chg.refl y []).drew).new k1 HBW.out
    have GB1 := (GB.chg (Chg.refl y []).drew (by simp)).chg k1 (by simp; have := HNE.out; omega)
    clear hHeld k1 HB
    go_wp2_with (first
      | (with_reducible refine load_b HB1 47 (.tmp 3) Tryd.underlying47 ?_ ?_ ?_ ?_ ?_ ?_
         · rfl
         · rfl
         · rfl
         · rfl
         · (rw [HZ.out]; exact HHInfo))
      | (with_reducible refine store_b GB1 47 (.tmp 2) (.tmp 10) ch ?_ ?_ ?_ ?_ ?_ ?_ HON.out ?_
         · rfl
         · rfl
         · rfl
         · rfl
         · (rw [HZ.out]; exact HHInfo)
         · (rw [HZ.out]; rfl)))
    exact bodyPost_ret (results_cell_row Tryd.results14 _ _ gd 47 ch (0, 0) _ rfl (GB1.setRow ch) Tryd.underlying47 rfl (by rw [HZ.out]; exact HHInfo)) rfl ⟨by rw [HCH.out], C.setRowNew HBG.out _⟩
  exact AllReadyH.nil
set_option maxHeartbeats 4000000 in
set_option maxRecDepth 100000 in
theorem Short_r (v : Value) (f : Nat → Nat) (w : World) (HJ : Hid (∀ W, Chg w W [] → Calls Tryd.prog 13 #[v] W fun e w' => e = .returned (.agg (yC 64 f)) ∧ Chg W w' [])) :
    Calls Tryd.prog 15 #[v] w fun e w' => e = .returned (.agg (yC 32 f)) ∧ Chg w w' [] := by
  have GB : Blk (w.alloc (.cells zh 47)) w.heap.size zh 47 := Blk.new _ _ _
  have C : Chg w (w.alloc (.cells zh 47)) [] := (Chg.refl w []).alloc _
  have HL32 : Hid ((#[] ++ (yC 32 (lay (fun _ => 0) 0 32 f) ++ #[]) : Array Value) = yC 32 f) := by
    show (#[] ++ (yC 32 (lay (fun _ => 0) 0 32 f) ++ #[]) : Array Value) = yC 32 f
    rw [Array.empty_append, Array.append_empty]
    exact yC_eq fun j hj => by unfold lay; rw [if_pos (by omega), Nat.sub_zero]
  have HZ : Hid ((yC 32 f).size = 32) := yC_size _ _
  have HON : Hid ((yC 32 f).all (·.oneCell') = true) := yC_one _ _
  have HZD : Hid ((yC 64 f).size = 64) := yC_size _ _
  have HOD : Hid ((yC 64 f).all (·.oneCell') = true) := yC_one _ _
  have HDG : Hid (∀ j, j < 64 → (yC 64 f)[j]? = some (.int .u8 ((f j : Nat) : Int))) := fun j hj => yC_get 64 f j hj
  obtain ⟨ch, hch⟩ : ∃ c, yC 32 f = c := ⟨_, rfl⟩
  obtain ⟨cd, hcd⟩ : ∃ c, yC 64 f = c := ⟨_, rfl⟩
  have HCH : Hid (ch = yC 32 f) := hch.symm
  rw [hch] at HL32 HZ HON
  rw [hcd] at HJ HZD HOD HDG
  have HWW : Hid (w.heap.size < ((w.alloc (.cells zh 47))).heap.size) := GB.lt
  clear hch hcd
  go_enter Tryd.func15, Tryd.ntmps15
  go_wp2_with fail
  try (change Calls Tryd.prog _ _ (w.alloc (.cells zh 47)) _)
  generalize (w.alloc (.cells zh 47)) = w0 at *
  refine (HJ.out _ C).mono ?_
  rintro e w1 ⟨rfl, k1⟩
  replace GB := GB.chg k1 (by simp)
  replace C := C.trans1 k1
  have HWS : Hid (w.heap.size < w1.heap.size) := GB.lt
  clear k1
  have DN := Blk.new w1 z64 42
  have KD : Chg w1 ((w1.alloc (.cells z64 42)).setRow w1.heap.size cd) [] := ((Chg.refl w1 []).alloc _).setRowNew (Nat.le_refl _) _
  have DB := DN.setRow cd
  replace GB := GB.chg KD (by simp)
  replace C := C.trans1 KD
  clear KD
  go_wp2_with (refine wpList_store_row rfl 42 _ _ rfl w1.heap.size cd rfl rfl 42 _ DN (by rw [HZD.out]; exact DInfo) (by rw [HZD.out]; rfl) HOD.out ?_
               try (change wpList Tryd.prog _ _ _ _ ((w1.alloc (.cells z64 42)).setRow w1.heap.size cd)))
  try (change Code.wp _ _ _ _ ((w1.alloc (.cells z64 42)).setRow w1.heap.size cd))
  have HB : Blk (((w1.alloc (.cells z64 42)).setRow w1.heap.size cd).alloc (.cells zh 47)) (w1.heap.size + 1) zh 47 := by have h := Blk.new ((w1.alloc (.cells z64 42)).setRow w1.heap.size cd) zh 47; simpa using h
  try (change Code.wp _ _ _ _ (((w1.alloc (.cells z64 42)).setRow w1.heap.size cd).alloc (.cells zh 47)))
  replace GB := GB.alloc (.cells zh 47)
  replace DB := DB.alloc (.cells zh 47)
  replace C := C.alloc (.cells zh 47)
  have HNE : Hid (¬ w.heap.size = w1.heap.size + 1) := by have := HWS.out; show ¬ w.heap.size = w1.heap.size + 1; omega
  have HBW : Hid (w.heap.size ≤ w1.heap.size + 1) := by have := HWS.out; show w.heap.size ≤ w1.heap.size + 1; omega
  generalize (((w1.alloc (.cells z64 42)).setRow w1.heap.size cd).alloc (.cells zh 47)) = y at *
  generalize w1.heap.size + 1 = hb at *
  generalize w1.heap.size = db at *
  have HBG : Hid (w.heap.size ≤ w.heap.size) := Nat.le_refl _
  obtain ⟨gd, hgd⟩ : ∃ b, w.heap.size = b := ⟨_, rfl⟩
  have HBG : Hid (w.heap.size ≤ gd) := Nat.le_of_eq hgd
  rw [hgd] at GB HNE
  rw [hgd]
  clear hgd
  have HCD : Hid (∀ j, j < 32 → y.drew.cell? ⟨db, 0 + j, none⟩ = some (.int .u8 ((f j : Nat) : Int))) := fun j hj => by rw [Nat.zero_add]; exact (DB.drew.cell j).trans (HDG.out j (by omega))
  replace HB : Blk y hb (#[] ++ (yC 32 (fun _ => 0) ++ #[])) 47 := HB.to (by rw [Array.empty_append, Array.append_empty]; exact zHh)
  refine wp_region_held_drew (S := fun w' => Chg y w' [hb]) (by kernel_rfl) ((Chg.refl y _).drew) (fun hHeld => ?_)
  refine take_val (v := (.slice (some ⟨hb, 0, none⟩) 32 32)) 0 (some 7) rfl (by kernel_rfl) (by kernel_rfl) (by kernel_rfl) (fun _ _ _ h => h) rfl rfl (fun w hSw => ?_) hHeld ?_
  · (go_simp; try with_reducible rfl)
  try simp only [Act.put, List.setIfInBounds_toArray, List.set_cons_zero, List.set_cons_succ]
  refine take_val (v := (.slice (some ⟨db, 0, none⟩) 32 64)) 1 (some 8) rfl (by kernel_rfl) (by kernel_rfl) (by kernel_rfl) (fun _ _ _ h => h) rfl rfl (fun w hSw => ?_) hHeld ?_
  · (go_simp; try with_reducible rfl)
  try simp only [Act.put, List.setIfInBounds_toArray, List.set_cons_zero, List.set_cons_succ]
  refine wpAnyH_ready (rs := [2]) (by kernel_rfl) (by simp) ?_
  refine AllReadyH.cons (o := _) rfl (fun K hK => ?_) ?_
  ·
    rw [if_pos (by rfl)]
    refine copy_yo (.tmp 7) (.tmp 8) 22 22 rfl 5 Tryd.underlying22 u8Info hb 0 32 32 (some ⟨db, 0, none⟩) 32 64 rfl rfl #[] 32 (fun _ => 0) #[] 47 HB.drew 0 32 f (fun _ => rfl) rfl (fun _ => ⟨db, 0, rfl, HCD.out⟩) (by decide) ?_
    intro x1 HB1 k1
    change K (Act.put _ (some 9) _) _
    refine hK.out _ _ (hHeld.trans1 k1) (fun hHeld => ?_)
    clear hK K
    try simp only [Act.put, List.setIfInBounds_toArray, List.set_cons_zero, List.set_cons_succ]
    refine wpAnyH_done (by kernel_rfl) ?_ _
    rw [HL32.out] at HB1
    replace C := (C.trans1 (Chg.refl y []).drew).new k1 HBW.out
    have GB1 := (GB.chg (Chg.refl y []).drew (by simp)).chg k1 (by simp; have := HNE.out; omega)
    clear hHeld k1 HB
    go_wp2_with (first
      | (with_reducible refine load_b HB1 47 (.tmp 4) Tryd.underlying47 ?_ ?_ ?_ ?_ ?_ ?_
         · rfl
         · rfl
         · rfl
         · rfl
         · (rw [HZ.out]; exact HHInfo))
      | (with_reducible refine store_b GB1 47 (.tmp 2) (.tmp 10) ch ?_ ?_ ?_ ?_ ?_ ?_ HON.out ?_
         · rfl
         · rfl
         · rfl
         · rfl
         · (rw [HZ.out]; exact HHInfo)
         · (rw [HZ.out]; rfl)))
    exact bodyPost_ret (results_cell_row Tryd.results15 _ _ gd 47 ch (0, 0) _ rfl (GB1.setRow ch) Tryd.underlying47 rfl (by rw [HZ.out]; exact HHInfo)) rfl ⟨by rw [HCH.out], C.setRowNew HBG.out _⟩
  exact AllReadyH.nil
end Go.Proofs.YtjcgjhncdaplcaaDoor
