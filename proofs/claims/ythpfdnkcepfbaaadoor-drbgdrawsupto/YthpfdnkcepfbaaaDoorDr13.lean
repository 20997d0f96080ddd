/- drbg: Expand's closure; Expand. -/
import Derived.Test.YthpfdnkcepfbaaaDoorDr6
import Derived.Test.YthpfdnkcepfbaaaDoorDr4
set_option linter.unusedVariables false
set_option linter.unusedSimpArgs false
set_option linter.unnecessarySimpa false
namespace Go.Proofs.YthpfdnkcepfbaaaDoor
open Go.RowKit

/-- Bytes that lie in none of the blocks l, or an empty slice that points anywhere. -/
def SeL (l : List Nat) (w : World) (v : Value) (n : Nat) (f : Nat → Nat) : Prop := (Sl w v n f ∧ Off v l) ∨ (n = 0 ∧ ∃ a : Addr, v = .slice (some a) 0 0)
theorem SeL.se {l : List Nat} {w : World} {v : Value} {n : Nat} {f : Nat → Nat} (h : SeL l w v n f) : Se w v n f := by
  rcases h with h | h
  · exact Or.inl h.1
  · exact Or.inr h
theorem SeL.chg {l : List Nat} {w w' : World} {v : Value} {n : Nat} {f : Nat → Nat} (h : SeL l w v n f) (hc : Chg w w' l) : SeL l w' v n f := by
  rcases h with h | h
  · exact Or.inl ⟨h.1.chg hc h.2, h.2⟩
  · exact Or.inr h
theorem SeL.sub {l m : List Nat} {w : World} {v : Value} {n : Nat} {f : Nat → Nat} (h : SeL l w v n f) (hm : ∀ i, i ∈ m → i ∈ l) : SeL m w v n f := by
  rcases h with h | h
  · exact Or.inl ⟨h.1, fun g o a b e hx => h.2 g o a b e (hm g hx)⟩
  · exact Or.inr h
theorem Se.sel {l : List Nat} {w : World} {v : Value} {n : Nat} {f : Nat → Nat} (h : Se w v n f) (hl : ∀ i, i ∈ l → w.heap.size ≤ i) : SeL l w v n f := by
  rcases h with h | h
  · exact Or.inl ⟨h, h.new l hl⟩
  · exact Or.inr h
theorem kb_kb (n : Nat) (f : Nat → Nat) : kb 128 (kb n f) = kb n f := by
  funext j
  unfold kb
  simp only [show ¬ (128 : Nat) < 128 by omega, if_false]
  by_cases h : j < 128
  · rw [if_pos h]
  · rw [if_neg h]
    split
    · rw [if_neg (by omega)]
    · rw [if_neg (by omega)]
/-- How long the digest ahead is; the digests of Expand. -/
def xn (i : Nat) : Nat := if i = 0 then 0 else 64
def xT (n : Nat) (kf : Nat → Nat) (m : Nat) (f : Nat → Nat) : Nat → Nat → Nat
  | 0 => fun _ => 0
  | i + 1 => mac n kf (xn i + m + 1) (cat (cat (xT n kf m f i) (xn i) f) (xn i + m) (fun _ => (i + 1) % 256))
def xO (n : Nat) (kf : Nat → Nat) (m : Nat) (f : Nat → Nat) : Nat → Nat := jn fun i => xT n kf m f (i + 1)
theorem xT_lt (n : Nat) (kf : Nat → Nat) (m : Nat) (f : Nat → Nat) (i j : Nat) : xT n kf m f i j < 256 := by
  cases i with
  | zero => show (0 : Nat) < 256; omega
  | succ i => exact mac_lt _ _ _ _ _
theorem mac_kb (n : Nat) (kf : Nat → Nat) (N : Nat) (F : Nat → Nat) : mac 128 (kb n kf) N F = mac n kf N F := by unfold mac; rw [kb_kb]
set_option maxHeartbeats 16000000 in
set_option maxRecDepth 100000 in
theorem Expand1_s (a0 a1 a2 a3 : Nat) (B : Nat → Nat) (x y : Nat) (hy : y = (x + 1) % 256) (pa : Option Addr) (an ca : Nat) (pi : Option Addr) (m ci : Nat) (af f : Nat → Nat) (w : World) (hG : Gl w) (hg : 2 ≤ a0 ∧ 2 ≤ a2) (hne : ¬ a0 = a1 ∧ ¬ a0 = a2 ∧ ¬ a0 = a3)
    (B0 : Blk w a0 #[.int .u8 (x : Int)] 5) (B1 : Blk w a1 (yC 128 B) 103) (hB : ∀ j, j < 128 → B j < 256) (B2 : Blk w a2 #[.slice pa an ca] 22) (B3 : Blk w a3 #[.slice pi m ci] 22) (SA : SeL [a0] w (.slice pa an ca) an af) (SI : SeL [a0] w (.slice pi m ci) m f) (hb : an ≤ 64) (hm : m < 9223372036854775808) (hx : x < 256) :
    Calls Tryd.prog 40 #[.pointer (some ⟨a0, 0, none⟩), .pointer (some ⟨a1, 0, none⟩), .pointer (some ⟨a2, 0, none⟩), .pointer (some ⟨a3, 0, none⟩)] w fun e w' => ∃ dg, e = .returned (.agg (yC 64 (mac 128 B (an + m + 1) (cat (cat af an f) (an + m) (fun _ => y))))) ∧ w.heap.size ≤ dg ∧ Chg w w' [a0, a2] ∧ Blk w' a0 #[.int .u8 (y : Int)] 5 ∧
      Blk w' a2 #[.slice (some ⟨dg, 0, none⟩) 64 64] 22 ∧ Blk w' dg (yC 64 (mac 128 B (an + m + 1) (cat (cat af an f) (an + m) (fun _ => y)))) 47 := by
  obtain ⟨D, hE⟩ : ∃ X, mac 128 B (an + m + 1) (cat (cat af an f) (an + m) (fun _ => y)) = X := ⟨_, rfl⟩
  have HE : Hid (mac 128 B (an + m + 1) (cat (cat af an f) (an + m) (fun _ => y)) = D) := hE
  rw [hE]
  clear hE
  have HBL : Hid (∀ j, j < 128 → B j < 256) := hB
  have HY : Hid (y < 256) := by show y < 256; omega
  have HBD : Hid (an ≤ 64 ∧ m < 9223372036854775808) := ⟨hb, hm⟩
  have e1 : IntKind.u8.wrap ((x : Int) + 1) = (y : Int) := by rw [IntKind.wrap_u8]; omega
  have HNE : Hid (¬ a0 = a1 ∧ ¬ a0 = a2 ∧ ¬ a0 = a3) := hne
  have HGA : Hid (2 ≤ a0 ∧ 2 ≤ a2) := hg
  have HLT : Hid (a0 < w.heap.size ∧ a2 < w.heap.size) := ⟨B0.lt, B2.lt⟩
  have HG0 : Hid (Gl w) := hG
  have HS0 : Hid (SeL [a0] w (.slice pa an ca) an af ∧ SeL [a0] w (.slice pi m ci) m f) := ⟨SA, SI⟩
  clear hb hm hy hx hB hne hg hG SA SI
  obtain ⟨ib, hib, hibz, hibs, _⟩ := bytesRow
  obtain ⟨iu, hiu, hiuz, hius, _⟩ := u8Row
  go_enter Tryd.func40, Tryd.ntmps40
  go_upto_region 1 with (with_reducible refine alloc_w rfl 47 rfl (.agg (yC 64 (fun _ => 0))) zeroDig (yC 64 (fun _ => 0)) rfl ?_; intro rb w1 hrb BR k1)
  have HRB : Hid (w.heap.size ≤ rb) := hrb
  have cx := (B0.chg k1 (by simp)).cell 0
  have fx := (B0.chg k1 (by simp)).frozen 0
  have B0' : Blk (w1.setCell ⟨a0, 0, none⟩ (.int .u8 (y : Int))) a0 #[.int .u8 (y : Int)] 5 := (B0.chg k1 (by simp)).setCell 0 _
  have k2 : Chg w1 (w1.setCell ⟨a0, 0, none⟩ (.int .u8 (y : Int))) [a0] := (Chg.refl w1 [a0]).setIn (by simp) 0 _
  go_upto_region 2 with fail
  obtain ⟨w2, hw2⟩ : ∃ z, z = w1.setCell ⟨a0, 0, none⟩ (.int .u8 (y : Int)) := ⟨_, rfl⟩
  rw [← hw2]
  rw [← hw2] at B0' k2
  have c2 : Chg w w2 [a0] := (k1.wide (l := [a0])).trans1 k2
  have HB0 : Hid (Blk w2 a0 #[.int .u8 (y : Int)] 5) := B0'
  have HB1 : Hid (Blk w2 a1 (yC 128 B) 103) := B1.chg c2 (by have := HNE.out; simp; omega)
  have HB2 : Hid (Blk w2 a2 #[.slice pa an ca] 22) := B2.chg c2 (by have := HNE.out; simp; omega)
  have HB3 : Hid (Blk w2 a3 #[.slice pi m ci] 22) := B3.chg c2 (by have := HNE.out; simp; omega)
  have HSA : Hid (Se w2 (.slice pa an ca) an af) := (HS0.out.1.chg c2).se
  have HSI : Hid (Se w2 (.slice pi m ci) m f) := (HS0.out.2.chg c2).se
  have HG : Hid (Gl w2) := HG0.out.chg c2 (by have := HGA.out; simp; omega) (by have := HGA.out; simp; omega)
  have HBR : Hid (Blk w2 rb (yC 64 (fun _ => 0)) 47) := BR.chg k2 (by have := HLT.out; have := HRB.out; simp; omega)
  have HC2 : Hid (Chg w w2 [a0] ∧ rb < w2.heap.size) := ⟨c2, HBR.out.lt⟩
  clear B0 B1 B2 B3 BR k1 k2 B0' c2 cx fx hw2 hrb HS0 HG0 e1
  refine wp_region_held_drew (S := fun w' => Chg w2 w' []) (by kernel_rfl) ((Chg.refl w2 _).drew) (fun hHeld => ?_)
  refine take_val (v := (.slice (some ⟨a1, 0, none⟩) 128 128)) 0 (some 8) rfl (by kernel_rfl) (by kernel_rfl) (by kernel_rfl) (fun _ _ _ h => h) rfl rfl (fun w hSw => ?_) hHeld ?_
  · (go_simp; try with_reducible rfl)
  try simp only [Act.put, List.setIfInBounds_toArray, List.set_cons_zero, List.set_cons_succ]
  refine take_val (v := (.slice pa an ca)) 1 (some 9) rfl (by kernel_rfl) (by kernel_rfl) (by kernel_rfl) (fun _ _ _ h => h) rfl rfl (fun w hSw => ?_) hHeld ?_
  · have cx : w.cell? ⟨a2, 0, none⟩ = some (.slice pa an ca) := (HB2.out.chg hSw (by simp)).cell 0
    (go_simp; try with_reducible rfl)
  try simp only [Act.put, List.setIfInBounds_toArray, List.set_cons_zero, List.set_cons_succ]
  refine take_val (v := (.slice pi m ci)) 2 (some 10) rfl (by kernel_rfl) (by kernel_rfl) (by kernel_rfl) (fun _ _ _ h => h) rfl rfl (fun w hSw => ?_) hHeld ?_
  · have cx : w.cell? ⟨a3, 0, none⟩ = some (.slice pi m ci) := (HB3.out.chg hSw (by simp)).cell 0
    (go_simp; try with_reducible rfl)
  try simp only [Act.put, List.setIfInBounds_toArray, List.set_cons_zero, List.set_cons_succ]
  refine take_val (v := (.int .u8 (y : Int))) 3 (some 11) rfl (by kernel_rfl) (by kernel_rfl) (by kernel_rfl) (fun _ _ _ h => h) rfl rfl (fun w hSw => ?_) hHeld ?_
  · have cx : w.cell? ⟨a0, 0, none⟩ = some (.int .u8 (y : Int)) := (HB0.out.chg hSw (by simp)).cell 0
    (go_simp; try with_reducible rfl)
  try simp only [Act.put, List.setIfInBounds_toArray, List.set_cons_zero, List.set_cons_succ]
  refine wpAnyH_ready (rs := [4, 7]) (by kernel_rfl) (by simp) ?_
  refine AllReadyH.cons (o := _) rfl (fun K' hK => ?_) ?_
  ·
    rw [if_pos (by rfl)]
    refine wp_bsl_o 22 5 1 #[(0, .tmp 11)] rfl [(0, .int .u8 (y : Int))] (by simp [Act.eval]) #[.int .u8 (y : Int)] iu (.int .u8 0) Tryd.underlying22 hiu hiuz 1 hius (by omega) (by omega) (fillB1 _) ?_
    intro mb v4 hmb B4 k4
    change K' (Act.put _ (some 12) _) _
    refine hK.out _ _ (hHeld.trans k4 (by simp)) (fun hHeld => ?_)
    clear hK K'
    try simp only [Act.put, List.setIfInBounds_toArray, List.set_cons_zero, List.set_cons_succ]
    clear k4
    refine wpAnyH_ready (rs := [5, 7]) (by kernel_rfl) (by simp) ?_
    refine AllReadyH.cons (o := _) rfl (fun K' hK => ?_) ?_
    ·
      rw [if_pos (by rfl)]
      refine wp_bsl_o 23 22 3 #[(0, .tmp 9), (1, .tmp 10), (2, .tmp 12)] rfl [(0, .slice pa an ca), (1, .slice pi m ci), (2, .slice (some ⟨mb, 0, none⟩) 1 1)] (by simp [Act.eval]) #[.slice pa an ca, .slice pi m ci, .slice (some ⟨mb, 0, none⟩) 1 1] ib (.slice none 0 0) Tryd.underlying23 hib hibz 1 hibs (by omega) (by omega) (fillS3 _ _ _ _ _ _ _ _ _) ?_
      intro lb v5 hlb B5 k5
      change K' (Act.put _ (some 13) _) _
      refine hK.out _ _ (hHeld.trans k5 (by simp)) (fun hHeld => ?_)
      clear hK K'
      try simp only [Act.put, List.setIfInBounds_toArray, List.set_cons_zero, List.set_cons_succ]
      replace B4 := B4.chg k5 (by simp)
      clear k5
      refine wpAnyH_ready (rs := [6, 7]) (by kernel_rfl) (by simp) ?_
      refine AllReadyH.cons (o := _) rfl (fun K' hK => ?_) ?_
      ·
        go_simp
        have SK := ((HB1.out.chg hHeld (by simp)).slT HBL.out (by omega))
        have SB : Sl _ (.slice (some ⟨mb, 0, none⟩) 1 1) 1 (fun _ => y) := (Blk.bs (N := 1) (t := fun _ => y) B4 (fun _ _ => HY.out)).sl 1 (by omega) (by omega)
        refine (MAC_s _ 128 B _ 3 _ _ _ _ (HG.out.chg hHeld (by simp) (by simp)) (Or.inl SK) (by omega) (Ps.mk3 B5 (HSA.out.chg hHeld) (HSI.out.chg hHeld) (Or.inl SB)) (by rw [cN_3]; have := HBD.out; omega)).mono ?_
        rintro e v6 ⟨rfl, k6⟩
        rw [cN_3, cF_3, HE.out]
        go_wp2_with fail
        refine hK.out _ _ (hHeld.trans k6 (by simp)) (fun hHeld => ?_)
        clear hK K'
        try simp only [Act.put, List.setIfInBounds_toArray, List.set_cons_zero, List.set_cons_succ]
        replace B4 := B4.chg k6 (by simp)
        replace B5 := B5.chg k6 (by simp)
        clear k6
        refine wpAnyH_ready (rs := [7]) (by kernel_rfl) (by simp) ?_
        refine AllReadyH.cons (o := _) rfl (fun K' hK => ?_) ?_
        ·
          rw [if_pos (by rfl)]
          refine wp_alloc_w 47 rfl (.agg (yC 64 (fun _ => 0))) zeroDig (yC 64 (fun _ => 0)) rfl ?_
          intro db v7 hdb B7 k7
          change K' (Act.put _ (some 5) _) _
          have HDB : Hid (w2.heap.size ≤ db) := Nat.le_trans hHeld.size hdb
          refine hK.out _ _ (hHeld.trans k7 (by simp)) (fun hHeld => ?_)
          clear hK K'
          try simp only [Act.put, List.setIfInBounds_toArray, List.set_cons_zero, List.set_cons_succ]
          replace B4 := B4.chg k7 (by simp)
          replace B5 := B5.chg k7 (by simp)
          clear k7
          refine wpAnyH_ready (rs := [8]) (by kernel_rfl) (by simp) ?_
          refine AllReadyH.cons (o := _) rfl (fun K' hK => ?_) ?_
          ·
            rw [if_pos (by rfl)]
            refine wp_store_w B7 47 _ _ (yC 64 D) rfl rfl rfl (by rw [yC_size]; exact digInfo) (by rw [yC_size, yC_size]) (yC_one 64 _) ?_
            intro v8 B8 k8
            refine hK.out _ _ (hHeld.new k8 HDB.out) (fun hHeld => ?_)
            clear hK K'
            try simp only [Act.put, List.setIfInBounds_toArray, List.set_cons_zero, List.set_cons_succ]
            clear k8 B7
            refine wpAnyH_done (by kernel_rfl) ?_ _
            obtain ⟨w5, rfl⟩ : ∃ z, z = v8 := ⟨v8, rfl⟩
            have C5 : Chg w w5 [a0, a2] := (HC2.out.1.incl (by simp)).trans hHeld (by simp)
            have B25 := HB2.out.chg hHeld (by simp)
            have BR5 := HBR.out.chg hHeld (by simp)
            have BA5 := HB0.out.chg hHeld (by simp)
            have HDN : Hid (w.heap.size ≤ db ∧ ¬ db = rb ∧ ¬ db = a2 ∧ ¬ a2 = rb) := ⟨by have := HC2.out.1.size; have := HDB.out; omega, by have := HC2.out.2; have := HDB.out; omega, by have := HC2.out.1.size; have := HDB.out; have := HLT.out; omega, by have := HLT.out; have := HRB.out; omega⟩
            have cx := B25.cell 0
            have fx := B25.frozen 0
            have B26 : Blk (w5.setCell ⟨a2, 0, none⟩ (.slice (some ⟨db, 0, none⟩) 64 64)) a2 #[.slice (some ⟨db, 0, none⟩) 64 64] 22 := B25.setCell 0 _
            have C6 : Chg w (w5.setCell ⟨a2, 0, none⟩ (.slice (some ⟨db, 0, none⟩) 64 64)) [a0, a2] := C5.setIn (by simp) 0 _
            have B86 := B8.setOther (show db ≠ a2 from HDN.out.2.2.1) 0 (.slice (some ⟨db, 0, none⟩) 64 64)
            have BR6 := BR5.setOther (show rb ≠ a2 from fun h => HDN.out.2.2.2 h.symm) 0 (.slice (some ⟨db, 0, none⟩) 64 64)
            have BA6 := BA5.setOther (show a0 ≠ a2 from HNE.out.2.1) 0 (.slice (some ⟨db, 0, none⟩) 64 64)
            clear hHeld C5 B25 BR5 BA5 B8
            go_upto_region 4 with fail
            obtain ⟨w6, hw6⟩ : ∃ z, z = w5.setCell ⟨a2, 0, none⟩ (.slice (some ⟨db, 0, none⟩) 64 64) := ⟨_, rfl⟩
            rw [← hw6]
            rw [← hw6] at B26 C6 B86 BR6 BA6
            clear hw6 cx fx
            go_wp2_with (first
              | (with_reducible refine load_b B86 47 (.tmp 5) Tryd.underlying47 ?_ ?_ ?_ ?_ ?_ ?_
                 · rfl
                 · rfl
                 · rfl
                 · rfl
                 · (rw [yC_size]; exact digInfo))
              | (refine store_w BR6 rfl 47 _ _ (yC 64 D) rfl rfl rfl (by rw [yC_size]; exact digInfo) (by rw [yC_size, yC_size]) (yC_one 64 _) ?_; intro w7 BR7 k7))
            exact bodyPost_ret (results_cell_row Tryd.results40 _ _ rb 47 (yC 64 D) (0, 0) _ rfl BR7 Tryd.underlying47 rfl (by rw [yC_size]; exact digInfo)) rfl ⟨db, rfl, HDN.out.1, C6.new k7 HRB.out, BA6.chg k7 (by have := HLT.out; have := HRB.out; simp; omega), B26.chg k7 (by have := HDN.out; simp; omega), B86.chg k7 (by have := HDN.out; simp; omega)⟩
          exact AllReadyH.nil
        exact AllReadyH.nil
      refine AllReadyH.cons (o := _) rfl (fun K' hK => ?_) ?_
      ·
        rw [if_pos (by rfl)]
        refine wp_alloc_w 47 rfl (.agg (yC 64 (fun _ => 0))) zeroDig (yC 64 (fun _ => 0)) rfl ?_
        intro db v7 hdb B7 k7
        change K' (Act.put _ (some 5) _) _
        have HDB : Hid (w2.heap.size ≤ db) := Nat.le_trans hHeld.size hdb
        refine hK.out _ _ (hHeld.trans k7 (by simp)) (fun hHeld => ?_)
        clear hK K'
        try simp only [Act.put, List.setIfInBounds_toArray, List.set_cons_zero, List.set_cons_succ]
        replace B4 := B4.chg k7 (by simp)
        replace B5 := B5.chg k7 (by simp)
        clear k7
        refine wpAnyH_ready (rs := [6]) (by kernel_rfl) (by simp) ?_
        refine AllReadyH.cons (o := _) rfl (fun K' hK => ?_) ?_
        ·
          go_simp
          have SK := ((HB1.out.chg hHeld (by simp)).slT HBL.out (by omega))
          have SB : Sl _ (.slice (some ⟨mb, 0, none⟩) 1 1) 1 (fun _ => y) := (Blk.bs (N := 1) (t := fun _ => y) B4 (fun _ _ => HY.out)).sl 1 (by omega) (by omega)
          refine (MAC_s _ 128 B _ 3 _ _ _ _ (HG.out.chg hHeld (by simp) (by simp)) (Or.inl SK) (by omega) (Ps.mk3 B5 (HSA.out.chg hHeld) (HSI.out.chg hHeld) (Or.inl SB)) (by rw [cN_3]; have := HBD.out; omega)).mono ?_
          rintro e v6 ⟨rfl, k6⟩
          rw [cN_3, cF_3, HE.out]
          go_wp2_with fail
          refine hK.out _ _ (hHeld.trans k6 (by simp)) (fun hHeld => ?_)
          clear hK K'
          try simp only [Act.put, List.setIfInBounds_toArray, List.set_cons_zero, List.set_cons_succ]
          replace B4 := B4.chg k6 (by simp)
          replace B5 := B5.chg k6 (by simp)
          replace B7 := B7.chg k6 (by simp)
          clear k6
          refine wpAnyH_ready (rs := [8]) (by kernel_rfl) (by simp) ?_
          refine AllReadyH.cons (o := _) rfl (fun K' hK => ?_) ?_
          ·
            rw [if_pos (by rfl)]
            refine wp_store_w B7 47 _ _ (yC 64 D) rfl rfl rfl (by rw [yC_size]; exact digInfo) (by rw [yC_size, yC_size]) (yC_one 64 _) ?_
            intro v8 B8 k8
            refine hK.out _ _ (hHeld.new k8 HDB.out) (fun hHeld => ?_)
            clear hK K'
            try simp only [Act.put, List.setIfInBounds_toArray, List.set_cons_zero, List.set_cons_succ]
            clear k8 B7
            refine wpAnyH_done (by kernel_rfl) ?_ _
            obtain ⟨w5, rfl⟩ : ∃ z, z = v8 := ⟨v8, rfl⟩
            have C5 : Chg w w5 [a0, a2] := (HC2.out.1.incl (by simp)).trans hHeld (by simp)
            have B25 := HB2.out.chg hHeld (by simp)
            have BR5 := HBR.out.chg hHeld (by simp)
            have BA5 := HB0.out.chg hHeld (by simp)
            have HDN : Hid (w.heap.size ≤ db ∧ ¬ db = rb ∧ ¬ db = a2 ∧ ¬ a2 = rb) := ⟨by have := HC2.out.1.size; have := HDB.out; omega, by have := HC2.out.2; have := HDB.out; omega, by have := HC2.out.1.size; have := HDB.out; have := HLT.out; omega, by have := HLT.out; have := HRB.out; omega⟩
            have cx := B25.cell 0
            have fx := B25.frozen 0
            have B26 : Blk (w5.setCell ⟨a2, 0, none⟩ (.slice (some ⟨db, 0, none⟩) 64 64)) a2 #[.slice (some ⟨db, 0, none⟩) 64 64] 22 := B25.setCell 0 _
            have C6 : Chg w (w5.setCell ⟨a2, 0, none⟩ (.slice (some ⟨db, 0, none⟩) 64 64)) [a0, a2] := C5.setIn (by simp) 0 _
            have B86 := B8.setOther (show db ≠ a2 from HDN.out.2.2.1) 0 (.slice (some ⟨db, 0, none⟩) 64 64)
            have BR6 := BR5.setOther (show rb ≠ a2 from fun h => HDN.out.2.2.2 h.symm) 0 (.slice (some ⟨db, 0, none⟩) 64 64)
            have BA6 := BA5.setOther (show a0 ≠ a2 from HNE.out.2.1) 0 (.slice (some ⟨db, 0, none⟩) 64 64)
            clear hHeld C5 B25 BR5 BA5 B8
            go_upto_region 4 with fail
            obtain ⟨w6, hw6⟩ : ∃ z, z = w5.setCell ⟨a2, 0, none⟩ (.slice (some ⟨db, 0, none⟩) 64 64) := ⟨_, rfl⟩
            rw [← hw6]
            rw [← hw6] at B26 C6 B86 BR6 BA6
            clear hw6 cx fx
            go_wp2_with (first
              | (with_reducible refine load_b B86 47 (.tmp 5) Tryd.underlying47 ?_ ?_ ?_ ?_ ?_ ?_
                 · rfl
                 · rfl
                 · rfl
                 · rfl
                 · (rw [yC_size]; exact digInfo))
              | (refine store_w BR6 rfl 47 _ _ (yC 64 D) rfl rfl rfl (by rw [yC_size]; exact digInfo) (by rw [yC_size, yC_size]) (yC_one 64 _) ?_; intro w7 BR7 k7))
            exact bodyPost_ret (results_cell_row Tryd.results40 _ _ rb 47 (yC 64 D) (0, 0) _ rfl BR7 Tryd.underlying47 rfl (by rw [yC_size]; exact digInfo)) rfl ⟨db, rfl, HDN.out.1, C6.new k7 HRB.out, BA6.chg k7 (by have := HLT.out; have := HRB.out; simp; omega), B26.chg k7 (by have := HDN.out; simp; omega), B86.chg k7 (by have := HDN.out; simp; omega)⟩
          exact AllReadyH.nil
        exact AllReadyH.nil
      exact AllReadyH.nil
    refine AllReadyH.cons (o := _) rfl (fun K' hK => ?_) ?_
    ·
      rw [if_pos (by rfl)]
      refine wp_alloc_w 47 rfl (.agg (yC 64 (fun _ => 0))) zeroDig (yC 64 (fun _ => 0)) rfl ?_
      intro db v7 hdb B7 k7
      change K' (Act.put _ (some 5) _) _
      have HDB : Hid (w2.heap.size ≤ db) := Nat.le_trans hHeld.size hdb
      refine hK.out _ _ (hHeld.trans k7 (by simp)) (fun hHeld => ?_)
      clear hK K'
      try simp only [Act.put, List.setIfInBounds_toArray, List.set_cons_zero, List.set_cons_succ]
      replace B4 := B4.chg k7 (by simp)
      clear k7
      refine wpAnyH_ready (rs := [5]) (by kernel_rfl) (by simp) ?_
      refine AllReadyH.cons (o := _) rfl (fun K' hK => ?_) ?_
      ·
        rw [if_pos (by rfl)]
        refine wp_bsl_o 23 22 3 #[(0, .tmp 9), (1, .tmp 10), (2, .tmp 12)] rfl [(0, .slice pa an ca), (1, .slice pi m ci), (2, .slice (some ⟨mb, 0, none⟩) 1 1)] (by simp [Act.eval]) #[.slice pa an ca, .slice pi m ci, .slice (some ⟨mb, 0, none⟩) 1 1] ib (.slice none 0 0) Tryd.underlying23 hib hibz 1 hibs (by omega) (by omega) (fillS3 _ _ _ _ _ _ _ _ _) ?_
        intro lb v5 hlb B5 k5
        change K' (Act.put _ (some 13) _) _
        refine hK.out _ _ (hHeld.trans k5 (by simp)) (fun hHeld => ?_)
        clear hK K'
        try simp only [Act.put, List.setIfInBounds_toArray, List.set_cons_zero, List.set_cons_succ]
        replace B4 := B4.chg k5 (by simp)
        replace B7 := B7.chg k5 (by simp)
        clear k5
        refine wpAnyH_ready (rs := [6]) (by kernel_rfl) (by simp) ?_
        refine AllReadyH.cons (o := _) rfl (fun K' hK => ?_) ?_
        ·
          go_simp
          have SK := ((HB1.out.chg hHeld (by simp)).slT HBL.out (by omega))
          have SB : Sl _ (.slice (some ⟨mb, 0, none⟩) 1 1) 1 (fun _ => y) := (Blk.bs (N := 1) (t := fun _ => y) B4 (fun _ _ => HY.out)).sl 1 (by omega) (by omega)
          refine (MAC_s _ 128 B _ 3 _ _ _ _ (HG.out.chg hHeld (by simp) (by simp)) (Or.inl SK) (by omega) (Ps.mk3 B5 (HSA.out.chg hHeld) (HSI.out.chg hHeld) (Or.inl SB)) (by rw [cN_3]; have := HBD.out; omega)).mono ?_
          rintro e v6 ⟨rfl, k6⟩
          rw [cN_3, cF_3, HE.out]
          go_wp2_with fail
          refine hK.out _ _ (hHeld.trans k6 (by simp)) (fun hHeld => ?_)
          clear hK K'
          try simp only [Act.put, List.setIfInBounds_toArray, List.set_cons_zero, List.set_cons_succ]
          replace B4 := B4.chg k6 (by simp)
          replace B5 := B5.chg k6 (by simp)
          replace B7 := B7.chg k6 (by simp)
          clear k6
          refine wpAnyH_ready (rs := [8]) (by kernel_rfl) (by simp) ?_
          refine AllReadyH.cons (o := _) rfl (fun K' hK => ?_) ?_
          ·
            rw [if_pos (by rfl)]
            refine wp_store_w B7 47 _ _ (yC 64 D) rfl rfl rfl (by rw [yC_size]; exact digInfo) (by rw [yC_size, yC_size]) (yC_one 64 _) ?_
            intro v8 B8 k8
            refine hK.out _ _ (hHeld.new k8 HDB.out) (fun hHeld => ?_)
            clear hK K'
            try simp only [Act.put, List.setIfInBounds_toArray, List.set_cons_zero, List.set_cons_succ]
            clear k8 B7
            refine wpAnyH_done (by kernel_rfl) ?_ _
            obtain ⟨w5, rfl⟩ : ∃ z, z = v8 := ⟨v8, rfl⟩
            have C5 : Chg w w5 [a0, a2] := (HC2.out.1.incl (by simp)).trans hHeld (by simp)
            have B25 := HB2.out.chg hHeld (by simp)
            have BR5 := HBR.out.chg hHeld (by simp)
            have BA5 := HB0.out.chg hHeld (by simp)
            have HDN : Hid (w.heap.size ≤ db ∧ ¬ db = rb ∧ ¬ db = a2 ∧ ¬ a2 = rb) := ⟨by have := HC2.out.1.size; have := HDB.out; omega, by have := HC2.out.2; have := HDB.out; omega, by have := HC2.out.1.size; have := HDB.out; have := HLT.out; omega, by have := HLT.out; have := HRB.out; omega⟩
            have cx := B25.cell 0
            have fx := B25.frozen 0
            have B26 : Blk (w5.setCell ⟨a2, 0, none⟩ (.slice (some ⟨db, 0, none⟩) 64 64)) a2 #[.slice (some ⟨db, 0, none⟩) 64 64] 22 := B25.setCell 0 _
            have C6 : Chg w (w5.setCell ⟨a2, 0, none⟩ (.slice (some ⟨db, 0, none⟩) 64 64)) [a0, a2] := C5.setIn (by simp) 0 _
            have B86 := B8.setOther (show db ≠ a2 from HDN.out.2.2.1) 0 (.slice (some ⟨db, 0, none⟩) 64 64)
            have BR6 := BR5.setOther (show rb ≠ a2 from fun h => HDN.out.2.2.2 h.symm) 0 (.slice (some ⟨db, 0, none⟩) 64 64)
            have BA6 := BA5.setOther (show a0 ≠ a2 from HNE.out.2.1) 0 (.slice (some ⟨db, 0, none⟩) 64 64)
            clear hHeld C5 B25 BR5 BA5 B8
            go_upto_region 4 with fail
            obtain ⟨w6, hw6⟩ : ∃ z, z = w5.setCell ⟨a2, 0, none⟩ (.slice (some ⟨db, 0, none⟩) 64 64) := ⟨_, rfl⟩
            rw [← hw6]
            rw [← hw6] at B26 C6 B86 BR6 BA6
            clear hw6 cx fx
            go_wp2_with (first
              | (with_reducible refine load_b B86 47 (.tmp 5) Tryd.underlying47 ?_ ?_ ?_ ?_ ?_ ?_
                 · rfl
                 · rfl
                 · rfl
                 · rfl
                 · (rw [yC_size]; exact digInfo))
              | (refine store_w BR6 rfl 47 _ _ (yC 64 D) rfl rfl rfl (by rw [yC_size]; exact digInfo) (by rw [yC_size, yC_size]) (yC_one 64 _) ?_; intro w7 BR7 k7))
            exact bodyPost_ret (results_cell_row Tryd.results40 _ _ rb 47 (yC 64 D) (0, 0) _ rfl BR7 Tryd.underlying47 rfl (by rw [yC_size]; exact digInfo)) rfl ⟨db, rfl, HDN.out.1, C6.new k7 HRB.out, BA6.chg k7 (by have := HLT.out; have := HRB.out; simp; omega), B26.chg k7 (by have := HDN.out; simp; omega), B86.chg k7 (by have := HDN.out; simp; omega)⟩
          exact AllReadyH.nil
        exact AllReadyH.nil
      exact AllReadyH.nil
    exact AllReadyH.nil
  refine AllReadyH.cons (o := _) rfl (fun K' hK => ?_) ?_
  ·
    rw [if_pos (by rfl)]
    refine wp_alloc_w 47 rfl (.agg (yC 64 (fun _ => 0))) zeroDig (yC 64 (fun _ => 0)) rfl ?_
    intro db v7 hdb B7 k7
    change K' (Act.put _ (some 5) _) _
    have HDB : Hid (w2.heap.size ≤ db) := Nat.le_trans hHeld.size hdb
    refine hK.out _ _ (hHeld.trans k7 (by simp)) (fun hHeld => ?_)
    clear hK K'
    try simp only [Act.put, List.setIfInBounds_toArray, List.set_cons_zero, List.set_cons_succ]
    clear k7
    refine wpAnyH_ready (rs := [4]) (by kernel_rfl) (by simp) ?_
    refine AllReadyH.cons (o := _) rfl (fun K' hK => ?_) ?_
    ·
      rw [if_pos (by rfl)]
      refine wp_bsl_o 22 5 1 #[(0, .tmp 11)] rfl [(0, .int .u8 (y : Int))] (by simp [Act.eval]) #[.int .u8 (y : Int)] iu (.int .u8 0) Tryd.underlying22 hiu hiuz 1 hius (by omega) (by omega) (fillB1 _) ?_
      intro mb v4 hmb B4 k4
      change K' (Act.put _ (some 12) _) _
      refine hK.out _ _ (hHeld.trans k4 (by simp)) (fun hHeld => ?_)
      clear hK K'
      try simp only [Act.put, List.setIfInBounds_toArray, List.set_cons_zero, List.set_cons_succ]
      replace B7 := B7.chg k4 (by simp)
      clear k4
      refine wpAnyH_ready (rs := [5]) (by kernel_rfl) (by simp) ?_
      refine AllReadyH.cons (o := _) rfl (fun K' hK => ?_) ?_
      ·
        rw [if_pos (by rfl)]
        refine wp_bsl_o 23 22 3 #[(0, .tmp 9), (1, .tmp 10), (2, .tmp 12)] rfl [(0, .slice pa an ca), (1, .slice pi m ci), (2, .slice (some ⟨mb, 0, none⟩) 1 1)] (by simp [Act.eval]) #[.slice pa an ca, .slice pi m ci, .slice (some ⟨mb, 0, none⟩) 1 1] ib (.slice none 0 0) Tryd.underlying23 hib hibz 1 hibs (by omega) (by omega) (fillS3 _ _ _ _ _ _ _ _ _) ?_
        intro lb v5 hlb B5 k5
        change K' (Act.put _ (some 13) _) _
        refine hK.out _ _ (hHeld.trans k5 (by simp)) (fun hHeld => ?_)
        clear hK K'
        try simp only [Act.put, List.setIfInBounds_toArray, List.set_cons_zero, List.set_cons_succ]
        replace B4 := B4.chg k5 (by simp)
        replace B7 := B7.chg k5 (by simp)
        clear k5
        refine wpAnyH_ready (rs := [6]) (by kernel_rfl) (by simp) ?_
        refine AllReadyH.cons (o := _) rfl (fun K' hK => ?_) ?_
        ·
          go_simp
          have SK := ((HB1.out.chg hHeld (by simp)).slT HBL.out (by omega))
          have SB : Sl _ (.slice (some ⟨mb, 0, none⟩) 1 1) 1 (fun _ => y) := (Blk.bs (N := 1) (t := fun _ => y) B4 (fun _ _ => HY.out)).sl 1 (by omega) (by omega)
          refine (MAC_s _ 128 B _ 3 _ _ _ _ (HG.out.chg hHeld (by simp) (by simp)) (Or.inl SK) (by omega) (Ps.mk3 B5 (HSA.out.chg hHeld) (HSI.out.chg hHeld) (Or.inl SB)) (by rw [cN_3]; have := HBD.out; omega)).mono ?_
          rintro e v6 ⟨rfl, k6⟩
          rw [cN_3, cF_3, HE.out]
          go_wp2_with fail
          refine hK.out _ _ (hHeld.trans k6 (by simp)) (fun hHeld => ?_)
          clear hK K'
          try simp only [Act.put, List.setIfInBounds_toArray, List.set_cons_zero, List.set_cons_succ]
          replace B4 := B4.chg k6 (by simp)
          replace B5 := B5.chg k6 (by simp)
          replace B7 := B7.chg k6 (by simp)
          clear k6
          refine wpAnyH_ready (rs := [8]) (by kernel_rfl) (by simp) ?_
          refine AllReadyH.cons (o := _) rfl (fun K' hK => ?_) ?_
          ·
            rw [if_pos (by rfl)]
            refine wp_store_w B7 47 _ _ (yC 64 D) rfl rfl rfl (by rw [yC_size]; exact digInfo) (by rw [yC_size, yC_size]) (yC_one 64 _) ?_
            intro v8 B8 k8
            refine hK.out _ _ (hHeld.new k8 HDB.out) (fun hHeld => ?_)
            clear hK K'
            try simp only [Act.put, List.setIfInBounds_toArray, List.set_cons_zero, List.set_cons_succ]
            clear k8 B7
            refine wpAnyH_done (by kernel_rfl) ?_ _
            obtain ⟨w5, rfl⟩ : ∃ z, z = v8 := ⟨v8, rfl⟩
            have C5 : Chg w w5 [a0, a2] := (HC2.out.1.incl (by simp)).trans hHeld (by simp)
            have B25 := HB2.out.chg hHeld (by simp)
            have BR5 := HBR.out.chg hHeld (by simp)
            have BA5 := HB0.out.chg hHeld (by simp)
            have HDN : Hid (w.heap.size ≤ db ∧ ¬ db = rb ∧ ¬ db = a2 ∧ ¬ a2 = rb) := ⟨by have := HC2.out.1.size; have := HDB.out; omega, by have := HC2.out.2; have := HDB.out; omega, by have := HC2.out.1.size; have := HDB.out; have := HLT.out; omega, by have := HLT.out; have := HRB.out; omega⟩
            have cx := B25.cell 0
            have fx := B25.frozen 0
            have B26 : Blk (w5.setCell ⟨a2, 0, none⟩ (.slice (some ⟨db, 0, none⟩) 64 64)) a2 #[.slice (some ⟨db, 0, none⟩) 64 64] 22 := B25.setCell 0 _
            have C6 : Chg w (w5.setCell ⟨a2, 0, none⟩ (.slice (some ⟨db, 0, none⟩) 64 64)) [a0, a2] := C5.setIn (by simp) 0 _
            have B86 := B8.setOther (show db ≠ a2 from HDN.out.2.2.1) 0 (.slice (some ⟨db, 0, none⟩) 64 64)
            have BR6 := BR5.setOther (show rb ≠ a2 from fun h => HDN.out.2.2.2 h.symm) 0 (.slice (some ⟨db, 0, none⟩) 64 64)
            have BA6 := BA5.setOther (show a0 ≠ a2 from HNE.out.2.1) 0 (.slice (some ⟨db, 0, none⟩) 64 64)
            clear hHeld C5 B25 BR5 BA5 B8
            go_upto_region 4 with fail
            obtain ⟨w6, hw6⟩ : ∃ z, z = w5.setCell ⟨a2, 0, none⟩ (.slice (some ⟨db, 0, none⟩) 64 64) := ⟨_, rfl⟩
            rw [← hw6]
            rw [← hw6] at B26 C6 B86 BR6 BA6
            clear hw6 cx fx
            go_wp2_with (first
              | (with_reducible refine load_b B86 47 (.tmp 5) Tryd.underlying47 ?_ ?_ ?_ ?_ ?_ ?_
                 · rfl
                 · rfl
                 · rfl
                 · rfl
                 · (rw [yC_size]; exact digInfo))
              | (refine store_w BR6 rfl 47 _ _ (yC 64 D) rfl rfl rfl (by rw [yC_size]; exact digInfo) (by rw [yC_size, yC_size]) (yC_one 64 _) ?_; intro w7 BR7 k7))
            exact bodyPost_ret (results_cell_row Tryd.results40 _ _ rb 47 (yC 64 D) (0, 0) _ rfl BR7 Tryd.underlying47 rfl (by rw [yC_size]; exact digInfo)) rfl ⟨db, rfl, HDN.out.1, C6.new k7 HRB.out, BA6.chg k7 (by have := HLT.out; have := HRB.out; simp; omega), B26.chg k7 (by have := HDN.out; simp; omega), B86.chg k7 (by have := HDN.out; simp; omega)⟩
          exact AllReadyH.nil
        exact AllReadyH.nil
      exact AllReadyH.nil
    exact AllReadyH.nil
  exact AllReadyH.nil
end Go.Proofs.YthpfdnkcepfbaaaDoor
