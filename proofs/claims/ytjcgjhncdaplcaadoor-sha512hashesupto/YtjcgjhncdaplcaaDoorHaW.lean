/- Sha512Hashes: the walk. -/
import Derived.Test.YtjcgjhncdaplcaaDoorH28
import Derived.Test.YtjcgjhncdaplcaaDoorH10
import Derived.Test.YtjcgjhncdaplcaaDoorChainWalk
set_option linter.unusedVariables false
set_option linter.unusedSimpArgs false
set_option linter.unnecessarySimpa false
namespace Go.Proofs.YtjcgjhncdaplcaaDoor
open Go.RowKit

/-- K steps, in memory. -/
def Sp (w : World) (v : Value) (K : Nat) (what : Nat → Int) (pv : Nat → Value) (pn : Nat → Nat) (pf : Nat → Nat → Nat) : Prop :=
  (∀ i, i < K → Se w (pv i) (pn i) (pf i)) ∧ ((K = 0 ∧ v = .slice none 0 0) ∨ ∃ g o cap, v = .slice (some ⟨g, o, none⟩) K cap ∧ K ≤ cap ∧ cap ≤ 9223372036854775807 ∧ g < w.heap.size ∧ ∀ i, i < K → w.cell? ⟨g, o + i * 2, none⟩ = some (.int .i64 (what i)) ∧ w.cell? ⟨g, o + i * 2 + 1, none⟩ = some (pv i))
theorem Sp.frm {w : World} {v : Value} {K : Nat} {what : Nat → Int} {pv : Nat → Value} {pn : Nat → Nat} {pf : Nat → Nat → Nat} (h : Sp w v K what pv pn pf) : K ≤ 9223372036854775807 ∧ ∃ p c, v = .slice p K c ∧ ∀ i, i < K → ∃ g o, p = some ⟨g, o, none⟩ ∧ g < w.heap.size ∧ w.cell? ⟨g, o + i * 2, none⟩ = some (.int .i64 (what i)) ∧ w.cell? ⟨g, o + i * 2 + 1, none⟩ = some (pv i) := by
  rcases h.2 with ⟨rfl, rfl⟩ | ⟨g, o, cap, rfl, h1, h2, h3, h4⟩
  · exact ⟨by omega, none, 0, rfl, fun i hi => by omega⟩
  · exact ⟨by omega, _, _, rfl, fun i hi => ⟨g, o, rfl, h3, h4 i hi⟩⟩
theorem cell_chg0 {w w' : World} {g k : Nat} {v : Value} {l : List Nat} (h : w.cell? ⟨g, k, none⟩ = some v) (hg : g < w.heap.size) (hc : Chg w w' l) (hn : ¬ g ∈ l) : w'.cell? ⟨g, k, none⟩ = some v := by
  rw [← h]
  simp only [World.cell?, hc.block g hg hn]
theorem builtM0 : Tryd.prog.built 73 [(0, .agg (vC 8 IV))] = some (mC IV (.slice none 0 0) 0) := by kernel_rfl
theorem HI.begin {w wr : World} {hb mb : Nat} (hm : Hm wr hb IV (fun _ => 0) 0) (mm : Blk wr mb (mC IV (.slice none 0 0) 0) 73) (h1 : w.heap.size ≤ hb) (h2 : w.heap.size ≤ mb) (ne : ¬ hb = mb) (gl : Gl wr) (two : 2 ≤ w.heap.size) (cc : Chg w wr []) : HI w wr hb mb 0 IV (fun _ => 0) (.slice none 0 0) :=
  ⟨hm, mm, Or.inl ⟨rfl, rfl⟩, (fun g o n c he _ => by simp at he), (fun g o n c he _ => by simp at he), h1, h2, ne, IV_lt, gl, two, cc⟩
theorem HI.low {w wr wr' : World} {hb mb n : Nat} {S T : Nat → Nat} {tv : Value} {l : List Nat} (h : HI w wr hb mb n S T tv) (k : Chg wr wr' l) (hl : ∀ x, x ∈ l → w.heap.size ≤ x ∧ ¬ x = hb ∧ ¬ x = mb) (j : Nat) (hj : j < 2) (hx : j ∈ l) : False := by
  have h1 := (hl j hx).1
  have h2 := h.two
  omega
theorem HI.chgN {w wr wr' : World} {hb mb n : Nat} {S T : Nat → Nat} {tv : Value} {l : List Nat} (h : HI w wr hb mb n S T tv) (k : Chg wr wr' l) (hl : ∀ x, x ∈ l → w.heap.size ≤ x ∧ ¬ x = hb ∧ ¬ x = mb) (ho : Off tv l) : HI w wr' hb mb n S T tv :=
  ⟨h.hm.chg k (fun hx => (hl _ hx).2.1 rfl), h.mm.chg k (fun hx => (hl _ hx).2.2 rfl), h.sl.chg k ho, h.oh, h.om, h.hh, h.hn, h.ne, h.us, h.gl.chg k (fun hx => h.low k hl 0 (by omega) hx) (fun hx => h.low k hl 1 (by omega) hx), h.two, h.cc.trans k (fun x hx => Or.inr (hl x hx).1)⟩
theorem mH (K i : Nat) (h : i < K) : (K - intOf (.int .i64 ((i : Int) + 1))).toNat < (K - intOf (.int .i64 (i : Int))).toNat := by simp [intOf]; omega
set_option maxHeartbeats 32000000 in
set_option maxRecDepth 100000 in
theorem hashes_walk (v : Value) (K : Nat) (what : Nat → Int) (pv : Nat → Value) (pn : Nat → Nat) (pf : Nat → Nat → Nat) (w : World) (hG : Gl w) (hp : Sp w v K what pv pn pf) (hm : cN pn K ≤ 1048576) :
    Calls Tryd.prog 5 #[v] w fun e w' => e = .returned (.bool true) ∧ Chg w w' [] := by
  have hge : Tryd.prog.eqGuardType Tryd.prog.depth 42 = false := by kernel_rfl
  obtain ⟨hK, vp, vc, rfl, hcells⟩ := hp.frm
  have HKK : Hid (K ≤ 9223372036854775807) := hK
  have HCE : Hid (∀ i, i < K → ∃ g o, vp = some ⟨g, o, none⟩ ∧ g < w.heap.size ∧ w.cell? ⟨g, o + i * 2, none⟩ = some (.int .i64 (what i)) ∧ w.cell? ⟨g, o + i * 2 + 1, none⟩ = some (pv i)) := hcells
  have HSE : Hid (∀ i, i < K → Se w (pv i) (pn i) (pf i)) := hp.1
  have HBU : Hid (cN pn K ≤ 1048576) := hm
  have HW2 : Hid (2 ≤ w.heap.size) := hG.lt
  have HBZ : Hid ((mC IV (.slice none 0 0) 0).size = 10) := mC_size _ _ _
  have HBO : Hid ((mC IV (.slice none 0 0) 0).all (·.oneCell') = true) := mC_one _ _ _ rfl
  have HBM : Hid (Tryd.prog.built 73 [(0, .agg (vC 8 IV))] = some (mC IV (.slice none 0 0) 0)) := builtM0
  have HWR : Hid (∀ w, Calls Tryd.prog 27 #[] w fun e w' => e = .returned (.agg (vC 8 IV)) ∧ Chg w w' []) := Words_r
  obtain ⟨cz, hcz⟩ : ∃ c, mC IV (.slice none 0 0) 0 = c := ⟨_, rfl⟩
  have HCZ : Hid (mC IV (.slice none 0 0) 0 = cz) := hcz
  obtain ⟨ci, hci⟩ : ∃ c, vC 8 IV = c := ⟨_, rfl⟩
  rw [hcz] at HBZ HBO HBM
  rw [hci] at HBM HWR
  clear hcells hp hm hK hcz hci
  go_enter Tryd.func5, Tryd.ntmps5
  go_wp2_with fail
  refine (New_s _ hG).mono ?_
  rintro e v1 ⟨h0, rfl, k1, hh0, A⟩
  have C := k1
  have hG1 := hG.chg k1 (by simp) (by simp)
  clear k1 hG
  go_wp2_with fail
  refine (HWR.out _).mono ?_
  rintro e v2 ⟨rfl, k2⟩
  replace C := C.trans1 k2
  replace hG1 := hG1.chg k2 (by simp) (by simp)
  replace A := A.chg k2 (by simp)
  have NM := Blk.new v2 zM 73
  have K3 : Chg v2 ((v2.alloc (.cells zM 73)).setRow v2.heap.size cz) [] := ((Chg.refl v2 []).alloc (.cells zM 73)).setRowNew (Nat.le_refl _) _
  have HNE0 : Hid (¬ h0 = v2.heap.size) := by have := A.lt; show ¬ h0 = v2.heap.size; omega
  have HMW : Hid (w.heap.size ≤ v2.heap.size) := C.size
  have NM2 := NM.setRow cz
  replace C := C.trans1 K3
  replace hG1 := hG1.chg K3 (by simp) (by simp)
  replace A := A.chg K3 (by simp)
  clear k2 K3
  go_wp2_with (first
    | (refine wpList_build_c rfl 73 _ rfl cz (by go_simp; exact HBM.out) ?_)
    | (refine wpList_store_row rfl 73 _ _ rfl v2.heap.size cz rfl rfl 73 _ NM (by rw [HBZ.out]; exact MInfo) (by rw [HBZ.out]; rfl) HBO.out ?_))
  try (change Code.wp _ _ _ _ ((v2.alloc (.cells zM 73)).setRow v2.heap.size cz))
  clear NM
  generalize ((v2.alloc (.cells zM 73)).setRow v2.heap.size cz) = y0 at *
  generalize v2.heap.size = mb at *
  have Q0 : HI w y0 h0 mb 0 IV (fun _ => 0) (.slice none 0 0) := HI.begin ⟨fun _ => 0, A, fun _ _ => Nat.zero_lt_succ _, fun _ _ => rfl⟩ (NM2.to HCZ.out.symm) hh0 HMW.out HNE0.out hG1 HW2.out C
  have HWM : Hid (w.heap.size ≤ mb) := HMW.out
  clear A NM2 hG1 C hh0 HNE0 HMW
  go_loopw [5, 3] (fun t th wr => ∃ (i hb n : Nat) (S T : Nat → Nat) (tv : Value), i ≤ K ∧ t = .int .i64 (i : Int) ∧ th = .pointer (some ⟨hb, 0, none⟩) ∧ n ≤ cN pn i ∧ HI w wr hb mb n S T tv) (fun t _ _ => (K - intOf t).toNat)
  case atStart => exact ⟨0, h0, 0, IV, fun _ => 0, .slice none 0 0, Nat.zero_le _, rfl, rfl, Nat.zero_le _, Q0⟩
  case round =>
    clear Q0
    obtain ⟨i, hb, n, S, T, tv, hi, rfl, rfl, hnc, Q⟩ := hrel
    have HNL : Hid (n ≤ 1048576) := Nat.le_trans hnc (Nat.le_trans (cN_mono pn hi) HBU.out)
    have HWH : Hid (w.heap.size ≤ hb) := Q.hh
    have HNE : Hid (¬ hb = mb) := Q.ne
    by_cases h : i < K
    · have hI : (i : Int) < (K : Int) := by omega
      have hI0 : (0 : Int) ≤ (i : Int) := by omega
      have e1 : IntKind.i64.wrap ((i : Int) + 1) = (i : Int) + 1 := by have := HKK.out; rw [IntKind.wrap_i64]; omega
      have HMI : Hid _ := mH K i h
      have HI1 : Hid (i + 1 ≤ K) := h
      have HSI : Hid (Se w (pv i) (pn i) (pf i)) := HSE.out i h
      have HPN : Hid (pn i ≤ 1048576) := Nat.le_trans (by show pn i ≤ cN pn (i + 1); exact Nat.le_add_left _ _) (Nat.le_trans (cN_mono pn h) HBU.out)
      have HLE : Hid (n ≤ cN pn (i + 1)) := Nat.le_trans hnc (cN_mono pn (Nat.le_succ i))
      have HLE2' : Hid (n + pn i ≤ cN pn (i + 1)) := Nat.add_le_add_right hnc _
      have HN2L : Hid (n + pn i ≤ 1048576) := Nat.le_trans HLE2'.out (Nat.le_trans (cN_mono pn h) HBU.out)
      obtain ⟨g, o, rfl, hg, hc1, hc2⟩ := HCE.out i h
      have HC1 : Hid (∀ W, Chg w W [] → W.cell? ⟨g, o + i * 2, none⟩ = some (.int .i64 (what i))) := fun W hW => cell_chg0 hc1 hg hW (by simp)
      have HC2 : Hid (∀ W, Chg w W [] → W.cell? ⟨g, o + i * 2 + 1, none⟩ = some (pv i)) := fun W hW => cell_chg0 hc2 hg hW (by simp)
      have HGM : Hid (¬ g = mb) := by have := HWM.out; show ¬ g = mb; omega
      have cw := HC1.out _ Q.cc
      obtain ⟨wt, hwt⟩ : ∃ x, what i = x := ⟨_, rfl⟩
      obtain ⟨bv, hbv⟩ : ∃ x, pv i = x := ⟨_, rfl⟩
      obtain ⟨bn, hbn⟩ : ∃ x, pn i = x := ⟨_, rfl⟩
      obtain ⟨bf, hbf⟩ : ∃ x, pf i = x := ⟨_, rfl⟩
      rw [hwt] at cw HC1
      rw [hbv] at HC2 HSI
      rw [hbn] at HSI HPN HLE2' HN2L
      rw [hbf] at HSI
      have HGL : Hid (g < w.heap.size) := hg
      clear hc1 hc2 hg hi h hnc hwt hbv hbn hbf HCE HSE
      by_cases hw0 : wt = 0
      · subst hw0
        have KA : Chg wr (wr.alloc (.cells (gC (.slice none 0 0) (.slice none 0 0)) 39)) [] := (Chg.refl wr []).alloc _
        have GB : Blk (wr.alloc (.cells (gC (.slice none 0 0) (.slice none 0 0)) 39)) wr.heap.size (gC (.slice none 0 0) (.slice none 0 0)) 39 := Blk.new _ _ _
        have HGH : Hid (hb < wr.heap.size ∧ mb < wr.heap.size ∧ w.heap.size ≤ wr.heap.size) := ⟨Q.hm.lt, Q.mm.lt, Q.cc.size⟩
        have HW1 : Hid (wr.heap.size < ((wr.alloc (.cells (gC (.slice none 0 0) (.slice none 0 0)) 39))).heap.size) := GB.lt
        have HOG : Hid (Off tv [wr.heap.size]) := Q.sl.new _ (by simp)
        have cx : (wr.alloc (.cells #[Value.slice none 0 0, Value.slice none 0 0, Value.slice none 0 0, Value.slice none 0 0, Value.slice none 0 0, Value.slice none 0 0, Value.slice none 0 0, Value.slice none 0 0, Value.slice none 0 0, Value.slice none 0 0, Value.slice none 0 0, Value.slice none 0 0, Value.slice none 0 0, Value.slice none 0 0, Value.slice none 0 0, Value.slice none 0 0, Value.slice none 0 0, Value.slice none 0 0, Value.slice none 0 0, Value.slice none 0 0, Value.slice none 0 0, Value.slice none 0 0, Value.slice none 0 0, Value.slice none 0 0, Value.slice none 0 0, Value.slice none 0 0, Value.slice none 0 0, Value.slice none 0 0, Value.slice none 0 0, Value.slice none 0 0] 39)).cell? ⟨g, o + i * 2 + 1, none⟩ = some bv := HC2.out _ (Q.cc.alloc _)
        replace Q := Q.chg KA
        have SE1 := HSI.out.chg Q.cc
        clear KA
        go_wp2_with fail
        rw [zGivenB]
        clear cx
        generalize (wr.alloc (.cells (gC (.slice none 0 0) (.slice none 0 0)) 39)) = w1 at *
        obtain ⟨gb, hgb⟩ : ∃ b, wr.heap.size = b := ⟨_, rfl⟩
        rw [hgb] at GB HGH HW1 HOG
        rw [hgb]
        clear hgb cw
        refine (givenBytes_e3 gb bn bv bf w1 (by have := HPN.out; omega) SE1 GB).mono ?_
        rintro e w2 ⟨oc, rfl, hoc, bo, GIw, k2⟩
        have Q2 := Q.chgN k2 (fun x hx => by simp only [List.mem_singleton] at hx; subst hx; have := HGH.out; omega) HOG.out
        have SE2 := HSI.out.chg Q2.cc
        have SLc : Sl w2 (.slice (some ⟨oc, 0, none⟩) bn (bn + 3)) bn bf := Or.inr ⟨oc, 0, bn + 3, rfl, by omega, by have := HPN.out; omega, bo⟩
        have HOC : Hid (Off (.slice (some ⟨oc, 0, none⟩) bn (bn + 3)) [hb]) := fun g' o' n' c' he hg' => by
          simp only [Value.slice.injEq, Option.some.injEq, Addr.mk.injEq] at he
          simp only [List.mem_singleton] at hg'
          have := HGH.out
          have := HW1.out
          omega
        obtain ⟨c3, hc3⟩ : ∃ c, bn + 3 = c := ⟨_, rfl⟩
        rw [hc3] at SLc HOC
        rw [hc3]
        clear hc3 k2 Q GB bo SE1
        go_wp2_with fail
        refine (Q2.hm.write Q2.gl Q2.us (by have := HWH.out; have := HW2.out; omega) SLc HOC.out (by have := HN2L.out; omega)).mono ?_
        rintro e w3 ⟨rfl, k3, HH2⟩
        have MBy := Q2.mm.chg k3 (by simp; have := HNE.out; omega)
        have SLt := Q2.sl.chg k3 Q2.oh
        have GLy := Q2.gl.chg k3 (by simp; have := HWH.out; have := HW2.out; omega) (by simp; have := HWH.out; have := HW2.out; omega)
        have CCy := Q2.cc.new k3 HWH.out
        have GI3 := GIw.chg k3 (fun x hx => by simp only [List.mem_singleton] at hx; subst hx; have := HGH.out; have := HW1.out; exact ⟨Or.inl (by omega), by omega⟩)
        have HUS : Hid (∀ i, i < 8 → U (S i)) := Q2.us
        have HMO : Hid (∀ w, Sl w tv (n % 128) T → Se w bv bn bf → Calls Tryd.prog 29 #[.agg (mC S tv n), bv] w fun e w' => ∃ tv, e = .returned (.agg (mC (mw S T n bf bn) tv (n + bn))) ∧ Sl w' tv ((n + bn) % 128) (mt T n bf bn) ∧ Chg w w' [] ∧ ∀ x, x < w.heap.size → Off tv [x]) := fun w h1 h2 => More_n S T bf n bn tv bv w HUS.out (by have := HPN.out; omega) (by have := HN2L.out; omega) h1 h2
        have HU2 : Hid (∀ i, i < 8 → U (mw S T n bf bn i)) := mw_U HUS.out _ _ _ _
        have HCM : Hid ((mC S tv n).size = 10) := mC_size _ _ _
        obtain ⟨S2, hS2⟩ : ∃ x, mw S T n bf bn = x := ⟨_, rfl⟩
        obtain ⟨T2, hT2⟩ : ∃ x, mt T n bf bn = x := ⟨_, rfl⟩
        obtain ⟨N2, hN2⟩ : ∃ x, n + bn = x := ⟨_, rfl⟩
        obtain ⟨cm, hcm⟩ : ∃ c, mC S tv n = c := ⟨_, rfl⟩
        rw [hS2, hT2, hN2] at HH2
        rw [hS2, hT2, hN2, hcm] at HMO
        rw [hS2] at HU2
        rw [hcm] at MBy HCM
        have HLE2 : Hid (N2 ≤ cN pn (i + 1)) := by have := HLE2'.out; show N2 ≤ cN pn (i + 1); omega
        clear hS2 hT2 hN2 hcm Q2 SLc k3 SE2 GIw
        go_wp2_with fail
        refine (GI3.intact).mono ?_
        rintro e y ⟨rfl, k4⟩
        replace MBy := MBy.chg k4 (by simp)
        replace SLt := SLt.chg k4 (Off.nil _)
        replace GLy := GLy.chg k4 (by simp) (by simp)
        replace CCy := CCy.trans1 k4
        replace HH2 := HH2.chg k4 (by simp)
        clear k4 GI3
        have SEb := HSI.out.chg (CCy.trans1 (Chg.refl y []).drew)
        replace SLt := SLt.chg ((Chg.refl y []).drew) (Off.nil _)
        have hcell2 : ∀ w', Chg y w' [mb] → w'.cell? ⟨g, o + i * 2 + 1, none⟩ = some bv := fun w' hc => cell_chg0 (HC2.out y CCy) (Nat.lt_of_lt_of_le HGL.out CCy.size) hc (by simp; have := HGM.out; omega)
        go_wp2_with fail
        refine wp_region_held_drew (S := fun w' => Chg y w' [mb]) (by kernel_rfl) ((Chg.refl y _).drew) (fun hHeld => ?_)
        refine take_val (v := ?_) 1 (some 38) rfl (by kernel_rfl) (by kernel_rfl) (by kernel_rfl) (fun _ _ _ h => h) rfl rfl (fun w hSw => ?_) hHeld ?_
        rotate_left
        · (go_simp; try with_reducible rfl)
        try simp only [Act.put, List.setIfInBounds_toArray, List.set_cons_zero, List.set_cons_succ]
        refine take_val (v := ?_) 2 (some 39) rfl (by kernel_rfl) (by kernel_rfl) (by kernel_rfl) (fun _ _ _ h => h) rfl rfl (fun w hSw => ?_) hHeld ?_
        rotate_left
        · (go_simp; try with_reducible rfl)
        try simp only [Act.put, List.setIfInBounds_toArray, List.set_cons_zero, List.set_cons_succ]
        refine take_val (v := ?_) 3 (some 40) rfl (by kernel_rfl) (by kernel_rfl) (by kernel_rfl) (fun _ _ _ h => h) rfl rfl (fun w hSw => ?_) hHeld ?_
        rotate_left
        · (go_simp; try with_reducible rfl)
        try simp only [Act.put, List.setIfInBounds_toArray, List.set_cons_zero, List.set_cons_succ]
        refine take_val (v := ?_) 4 (some 41) rfl (by kernel_rfl) (by kernel_rfl) (by kernel_rfl) (fun _ _ _ h => h) rfl rfl (fun w hSw => ?_) hHeld ?_
        rotate_left
        · (go_simp; try with_reducible rfl)
        try simp only [Act.put, List.setIfInBounds_toArray, List.set_cons_zero, List.set_cons_succ]
        refine take_val (v := ?_) 5 (some 42) rfl (by kernel_rfl) (by kernel_rfl) (by kernel_rfl) (fun _ _ _ h => h) rfl rfl (fun w hSw => ?_) hHeld ?_
        rotate_left
        · have cx := hcell2 _ hSw
          (go_simp; try with_reducible rfl)
        try simp only [Act.put, List.setIfInBounds_toArray, List.set_cons_zero, List.set_cons_succ]
        refine wpAnyH_ready (rs := [0]) (by kernel_rfl) (by simp) ?_
        refine AllReadyH.cons (o := _) rfl (fun K hK => ?_) ?_
        ·
          rw [if_pos (by rfl)]
          refine wp_load_row 73 (.tmp 4) rfl mb rfl 73 cm (0, 0) _ MBy.drew Tryd.underlying73 rfl (by rw [HCM.out]; exact MInfo) ?_
          refine hK.out _ _ (hHeld) (fun hHeld => ?_)
          clear hK K
          try simp only [Act.put, List.setIfInBounds_toArray, List.set_cons_zero, List.set_cons_succ]
          refine wpAnyH_ready (rs := [6]) (by kernel_rfl) (by simp) ?_
          refine AllReadyH.cons (o := _) rfl (fun K hK => ?_) ?_
          ·
            go_simp
            refine (HMO.out _ SLt SEb).mono ?_
            rintro e x1 ⟨tv2, rfl, SN, k1, HOFF2⟩
            go_wp2_with fail
            refine hK.out _ _ (hHeld.trans1 k1.wide) (fun hHeld => ?_)
            clear hK K
            try simp only [Act.put, List.setIfInBounds_toArray, List.set_cons_zero, List.set_cons_succ]
            refine wpAnyH_ready (rs := [7]) (by kernel_rfl) (by simp) ?_
            refine AllReadyH.cons (o := _) rfl (fun K hK => ?_) ?_
            ·
              rw [if_pos (by rfl)]
              have MB1 := MBy.drew.chg k1 (by simp)
              obtain ⟨pt, ct, rfl, _⟩ := SN.frm
              have HCN : Hid ((mC S2 (.slice pt (N2 % 128) ct) N2).size = 10) := mC_size _ _ _
              have HCO : Hid ((mC S2 (.slice pt (N2 % 128) ct) N2).all (·.oneCell') = true) := mC_one _ _ _ rfl
              obtain ⟨cn, hcn⟩ : ∃ c, mC S2 (.slice pt (N2 % 128) ct) N2 = c := ⟨_, rfl⟩
              have HCNe : Hid (mC S2 (.slice pt (N2 % 128) ct) N2 = cn) := hcn
              rw [hcn] at HCN HCO
              rw [hcn]
              clear hcn
              refine wp_store_row 73 _ _ rfl mb cn rfl rfl 73 _ MB1 (by rw [HCN.out]; exact MInfo) (by rw [HCM.out, HCN.out]) HCO.out ?_
              have KSR : Chg x1 (x1.setRow mb cn) [mb] := Chg.of (gb_setRow (gb_refl x1 (some mb)) cn)
              refine hK.out _ _ (hHeld.trans1 KSR) (fun hHeld => ?_)
              clear hK K
              try simp only [Act.put, List.setIfInBounds_toArray, List.set_cons_zero, List.set_cons_succ]
              refine wpAnyH_done (by kernel_rfl) ?_ _
              have k0 : Chg y x1 [] := (Chg.refl y []).drew.trans1 k1
              have HMx : Hm (x1.setRow mb cn) hb S2 T2 N2 := (HH2.chg k0 (by simp)).chg KSR (by simp; have := HNE.out; omega)
              have Q2 : HI w (x1.setRow mb cn) hb mb N2 S2 T2 (.slice pt (N2 % 128) ct) := ⟨HMx, (MB1.setRow cn).to HCNe.out.symm, SN.chg KSR (HOFF2 mb (by have := MBy.lt; exact this)), HOFF2 hb (by have := HH2.lt; exact this), HOFF2 mb (by have := MBy.lt; exact this), HWH.out, HWM.out, HNE.out, HU2.out, (GLy.chg k0 (by simp) (by simp)).chg KSR (by simp; have := HWM.out; have := HW2.out; omega) (by simp; have := HWM.out; have := HW2.out; omega), HW2.out, (CCy.trans1 k0).new KSR HWM.out⟩
              generalize x1.setRow mb cn = x2 at *
              go_wp2_with fail
              exact ⟨⟨i + 1, hb, N2, S2, T2, .slice pt (N2 % 128) ct, HI1.out, by go_num, rfl, HLE2.out, Q2⟩, HMI.out⟩
            exact AllReadyH.nil
          exact AllReadyH.nil
        exact AllReadyH.nil
      by_cases hw1 : wt = 1
      · subst hw1
        have HCM : Hid ((mC S tv n).size = 10) := mC_size _ _ _
        have HC8 : Hid ((mC S tv n)[8]? = some tv) := mC_tail _ _ _
        have HC9 : Hid ((mC S tv n)[9]? = some (.int .u64 (n : Int))) := mC_len _ _ _
        have HRG : Hid (∀ W, Blk W mb (mC S tv n) 73 → W.rangeAt mb 0 (vL 8 S)) := fun W h => mid_range h
        have HFIN : Hid (∀ w, Sl w tv (n % 128) T → Calls Tryd.prog 31 #[.agg (vC 8 S), tv, .int .u64 (n : Int)] w fun e w' => e = .returned (.agg (yC 64 (fh S T n))) ∧ Chg w w' []) := fun w h => Finish_m S T n _ w Q.us (by have := HNL.out; omega) h
        have HSAM : Hid (∀ w v, Sl w v (n % 128) T → Sl w tv (n % 128) T → Calls Tryd.prog 33 #[.agg (mC S v n), .agg (mC S tv n)] w fun e w' => e = .returned (.bool true) ∧ Chg w w' []) := fun w v h1 h2 => sameMid_t S T v tv _ n w Q.us h1 h2
        have HLN : Hid ((vL 8 S).length = 8) := vL_len _ _
        have HLA : Hid ((vL 8 S).toArray = vC 8 S) := vL_arr _ _
        have heqd : ∀ w, (Op.equalIn 10000 42 (.agg (yC 64 (fh S T n))) (.agg (yC 64 (fh S T n)))).run Tryd.prog w = .ok true w := fun w => by rw [eq_dig, eqy_self]
        have HMB : Hid (Blk wr mb (mC S tv n) 73) := Q.mm
        obtain ⟨cm, hcm⟩ : ∃ c, mC S tv n = c := ⟨_, rfl⟩
        have HCMe : Hid (mC S tv n = cm) := hcm
        obtain ⟨dg, hdg⟩ : ∃ d, yC 64 (fh S T n) = d := ⟨_, rfl⟩
        have HDG : Hid (yC 64 (fh S T n) = dg) := hdg
        obtain ⟨l8, hl8⟩ : ∃ l, vL 8 S = l := ⟨_, rfl⟩
        obtain ⟨c8, hc8⟩ : ∃ c, vC 8 S = c := ⟨_, rfl⟩
        rw [hcm] at HCM HC8 HC9 HRG HSAM HMB
        rw [hdg] at HFIN heqd
        rw [hc8] at HFIN HLA
        rw [hl8] at HRG HLN HLA
        clear hcm hdg hl8 hc8
        have MB := HMB.out
        clear HMB
        go_wp2_with fail
        refine wp_region_held_drew (S := fun w' => Chg wr w' []) (by kernel_rfl) ((Chg.refl wr _).drew) (fun hHeld => ?_)
        replace Q := Q.chg ((Chg.refl wr []).drew)
        refine take_val (v := ?_) 0 (some 46) rfl (by kernel_rfl) (by kernel_rfl) (by kernel_rfl) (fun _ _ _ h => h) rfl rfl (fun w hSw => ?_) hHeld ?_
        rotate_left
        · (go_simp; try with_reducible rfl)
        try simp only [Act.put, List.setIfInBounds_toArray, List.set_cons_zero, List.set_cons_succ]
        refine take_val (v := ?_) 2 (some 48) rfl (by kernel_rfl) (by kernel_rfl) (by kernel_rfl) (fun _ _ _ h => h) rfl rfl (fun w hSw => ?_) hHeld ?_
        rotate_left
        · (go_simp; try with_reducible rfl)
        try simp only [Act.put, List.setIfInBounds_toArray, List.set_cons_zero, List.set_cons_succ]
        refine take_val (v := (.agg c8)) 3 (some 49) rfl (by kernel_rfl) (by kernel_rfl) (by kernel_rfl) (fun _ _ _ h => h) rfl rfl (fun w hSw => ?_) hHeld ?_
        · exact exec_load_mid w 53 (.tmp 48) rfl mb 0 rfl l8 _ (HRG.out _ (MB.chg hSw (by simp))) Tryd.underlying53 rfl (by rw [HLN.out]; exact S8Info) HLA.out
        try simp only [Act.put, List.setIfInBounds_toArray, List.set_cons_zero, List.set_cons_succ]
        refine take_val (v := ?_) 4 (some 50) rfl (by kernel_rfl) (by kernel_rfl) (by kernel_rfl) (fun _ _ _ h => h) rfl rfl (fun w hSw => ?_) hHeld ?_
        rotate_left
        · (go_simp; try with_reducible rfl)
        try simp only [Act.put, List.setIfInBounds_toArray, List.set_cons_zero, List.set_cons_succ]
        refine take_val (v := ?_) 5 (some 51) rfl (by kernel_rfl) (by kernel_rfl) (by kernel_rfl) (fun _ _ _ h => h) rfl rfl (fun w hSw => ?_) hHeld ?_
        rotate_left
        · have cx := ((MB.chg hSw (by simp)).cell 8).trans HC8.out
          (go_simp; try with_reducible rfl)
        try simp only [Act.put, List.setIfInBounds_toArray, List.set_cons_zero, List.set_cons_succ]
        refine take_val (v := ?_) 6 (some 52) rfl (by kernel_rfl) (by kernel_rfl) (by kernel_rfl) (fun _ _ _ h => h) rfl rfl (fun w hSw => ?_) hHeld ?_
        rotate_left
        · (go_simp; try with_reducible rfl)
        try simp only [Act.put, List.setIfInBounds_toArray, List.set_cons_zero, List.set_cons_succ]
        refine take_val (v := ?_) 7 (some 53) rfl (by kernel_rfl) (by kernel_rfl) (by kernel_rfl) (fun _ _ _ h => h) rfl rfl (fun w hSw => ?_) hHeld ?_
        rotate_left
        · have cx := ((MB.chg hSw (by simp)).cell 9).trans HC9.out
          (go_simp; try with_reducible rfl)
        try simp only [Act.put, List.setIfInBounds_toArray, List.set_cons_zero, List.set_cons_succ]
        refine wpAnyH_ready (rs := [1]) (by kernel_rfl) (by simp) ?_
        refine AllReadyH.cons (o := _) rfl (fun K hK => ?_) ?_
        ·
          go_simp
          refine (Q.hm.sum Q.gl Q.us (by have := HNL.out; omega)).mono ?_
          rintro e x1 ⟨rfl, k1⟩
          replace Q := Q.chg k1
          go_wp2_with fail
          rw [HDG.out]
          refine hK.out _ _ (hHeld.trans1 k1) (fun hHeld => ?_)
          clear hK K
          try simp only [Act.put, List.setIfInBounds_toArray, List.set_cons_zero, List.set_cons_succ]
          clear k1
          refine wpAnyH_ready (rs := [8]) (by kernel_rfl) (by simp) ?_
          refine AllReadyH.cons (o := _) rfl (fun K hK => ?_) ?_
          ·
            go_simp
            refine (HFIN.out _ Q.sl).mono ?_
            rintro e x2 ⟨rfl, k2⟩
            replace Q := Q.chg k2
            go_wp2_with fail
            refine hK.out _ _ (hHeld.trans1 k2) (fun hHeld => ?_)
            clear hK K
            try simp only [Act.put, List.setIfInBounds_toArray, List.set_cons_zero, List.set_cons_succ]
            clear k2
            refine take_val (v := ?_) 9 (some 55) rfl (by kernel_rfl) (by kernel_rfl) (by kernel_rfl) (fun _ _ _ h => h) rfl rfl (fun w hSw => ?_) hHeld ?_
            rotate_left
            · (go_simp; try with_reducible rfl)
            try simp only [Act.put, List.setIfInBounds_toArray, List.set_cons_zero, List.set_cons_succ]
            refine wpAnyH_done (by kernel_rfl) ?_ _
            go_wp2_with fail
            exact ⟨⟨i + 1, hb, n, S, T, tv, HI1.out, by go_num, rfl, HLE.out, Q⟩, HMI.out⟩
          exact AllReadyH.nil
        exact AllReadyH.nil
      by_cases hw2 : wt = 2
      · subst hw2
        have HCM : Hid ((mC S tv n).size = 10) := mC_size _ _ _
        have HC8 : Hid ((mC S tv n)[8]? = some tv) := mC_tail _ _ _
        have HC9 : Hid ((mC S tv n)[9]? = some (.int .u64 (n : Int))) := mC_len _ _ _
        have HRG : Hid (∀ W, Blk W mb (mC S tv n) 73 → W.rangeAt mb 0 (vL 8 S)) := fun W h => mid_range h
        have HFIN : Hid (∀ w, Sl w tv (n % 128) T → Calls Tryd.prog 31 #[.agg (vC 8 S), tv, .int .u64 (n : Int)] w fun e w' => e = .returned (.agg (yC 64 (fh S T n))) ∧ Chg w w' []) := fun w h => Finish_m S T n _ w Q.us (by have := HNL.out; omega) h
        have HSAM : Hid (∀ w v, Sl w v (n % 128) T → Sl w tv (n % 128) T → Calls Tryd.prog 33 #[.agg (mC S v n), .agg (mC S tv n)] w fun e w' => e = .returned (.bool true) ∧ Chg w w' []) := fun w v h1 h2 => sameMid_t S T v tv _ n w Q.us h1 h2
        have HLN : Hid ((vL 8 S).length = 8) := vL_len _ _
        have HLA : Hid ((vL 8 S).toArray = vC 8 S) := vL_arr _ _
        have heqd : ∀ w, (Op.equalIn 10000 42 (.agg (yC 64 (fh S T n))) (.agg (yC 64 (fh S T n)))).run Tryd.prog w = .ok true w := fun w => by rw [eq_dig, eqy_self]
        have HMB : Hid (Blk wr mb (mC S tv n) 73) := Q.mm
        obtain ⟨cm, hcm⟩ : ∃ c, mC S tv n = c := ⟨_, rfl⟩
        have HCMe : Hid (mC S tv n = cm) := hcm
        obtain ⟨dg, hdg⟩ : ∃ d, yC 64 (fh S T n) = d := ⟨_, rfl⟩
        have HDG : Hid (yC 64 (fh S T n) = dg) := hdg
        obtain ⟨l8, hl8⟩ : ∃ l, vL 8 S = l := ⟨_, rfl⟩
        obtain ⟨c8, hc8⟩ : ∃ c, vC 8 S = c := ⟨_, rfl⟩
        rw [hcm] at HCM HC8 HC9 HRG HSAM HMB
        rw [hdg] at HFIN heqd
        rw [hc8] at HFIN HLA
        rw [hl8] at HRG HLN HLA
        clear hcm hdg hl8 hc8
        have MB := HMB.out
        clear HMB
        go_wp2_with fail
        refine wp_region_held_drew (S := fun w' => Chg wr w' []) (by kernel_rfl) ((Chg.refl wr _).drew) (fun hHeld => ?_)
        replace Q := Q.chg ((Chg.refl wr []).drew)
        refine take_val (v := ?_) 0 (some 58) rfl (by kernel_rfl) (by kernel_rfl) (by kernel_rfl) (fun _ _ _ h => h) rfl rfl (fun w hSw => ?_) hHeld ?_
        rotate_left
        · (go_simp; try with_reducible rfl)
        try simp only [Act.put, List.setIfInBounds_toArray, List.set_cons_zero, List.set_cons_succ]
        refine take_val (v := ?_) 2 (some 60) rfl (by kernel_rfl) (by kernel_rfl) (by kernel_rfl) (fun _ _ _ h => h) rfl rfl (fun w hSw => ?_) hHeld ?_
        rotate_left
        · (go_simp; try with_reducible rfl)
        try simp only [Act.put, List.setIfInBounds_toArray, List.set_cons_zero, List.set_cons_succ]
        refine take_val (v := ?_) 3 (some 61) rfl (by kernel_rfl) (by kernel_rfl) (by kernel_rfl) (fun _ _ _ h => h) rfl rfl (fun w hSw => ?_) hHeld ?_
        rotate_left
        · have cx := ((MB.chg hSw (by simp)).cell 9).trans HC9.out
          (go_simp; try with_reducible rfl)
        try simp only [Act.put, List.setIfInBounds_toArray, List.set_cons_zero, List.set_cons_succ]
        refine wpAnyH_ready (rs := [1]) (by kernel_rfl) (by simp) ?_
        refine AllReadyH.cons (o := _) rfl (fun K hK => ?_) ?_
        ·
          go_simp
          refine (Q.hm.len).mono ?_
          rintro e x1 ⟨rfl, rfl⟩
          go_wp2_with fail
          refine hK.out _ _ (hHeld) (fun hHeld => ?_)
          clear hK K
          try simp only [Act.put, List.setIfInBounds_toArray, List.set_cons_zero, List.set_cons_succ]
          refine take_val (v := ?_) 4 (some 62) rfl (by kernel_rfl) (by kernel_rfl) (by kernel_rfl) (fun _ _ _ h => h) rfl rfl (fun w hSw => ?_) hHeld ?_
          rotate_left
          · (go_simp; try with_reducible rfl)
          try simp only [Act.put, List.setIfInBounds_toArray, List.set_cons_zero, List.set_cons_succ]
          refine wpAnyH_done (by kernel_rfl) ?_ _
          go_wp2_with fail
          exact ⟨⟨i + 1, hb, n, S, T, tv, HI1.out, by go_num, rfl, HLE.out, Q⟩, HMI.out⟩
        exact AllReadyH.nil
      by_cases hw3 : wt = 3
      · subst hw3
        have HCM : Hid ((mC S tv n).size = 10) := mC_size _ _ _
        have HC8 : Hid ((mC S tv n)[8]? = some tv) := mC_tail _ _ _
        have HC9 : Hid ((mC S tv n)[9]? = some (.int .u64 (n : Int))) := mC_len _ _ _
        have HRG : Hid (∀ W, Blk W mb (mC S tv n) 73 → W.rangeAt mb 0 (vL 8 S)) := fun W h => mid_range h
        have HFIN : Hid (∀ w, Sl w tv (n % 128) T → Calls Tryd.prog 31 #[.agg (vC 8 S), tv, .int .u64 (n : Int)] w fun e w' => e = .returned (.agg (yC 64 (fh S T n))) ∧ Chg w w' []) := fun w h => Finish_m S T n _ w Q.us (by have := HNL.out; omega) h
        have HSAM : Hid (∀ w v, Sl w v (n % 128) T → Sl w tv (n % 128) T → Calls Tryd.prog 33 #[.agg (mC S v n), .agg (mC S tv n)] w fun e w' => e = .returned (.bool true) ∧ Chg w w' []) := fun w v h1 h2 => sameMid_t S T v tv _ n w Q.us h1 h2
        have HLN : Hid ((vL 8 S).length = 8) := vL_len _ _
        have HLA : Hid ((vL 8 S).toArray = vC 8 S) := vL_arr _ _
        have heqd : ∀ w, (Op.equalIn 10000 42 (.agg (yC 64 (fh S T n))) (.agg (yC 64 (fh S T n)))).run Tryd.prog w = .ok true w := fun w => by rw [eq_dig, eqy_self]
        have HMB : Hid (Blk wr mb (mC S tv n) 73) := Q.mm
        obtain ⟨cm, hcm⟩ : ∃ c, mC S tv n = c := ⟨_, rfl⟩
        have HCMe : Hid (mC S tv n = cm) := hcm
        obtain ⟨dg, hdg⟩ : ∃ d, yC 64 (fh S T n) = d := ⟨_, rfl⟩
        have HDG : Hid (yC 64 (fh S T n) = dg) := hdg
        obtain ⟨l8, hl8⟩ : ∃ l, vL 8 S = l := ⟨_, rfl⟩
        obtain ⟨c8, hc8⟩ : ∃ c, vC 8 S = c := ⟨_, rfl⟩
        rw [hcm] at HCM HC8 HC9 HRG HSAM HMB
        rw [hdg] at HFIN heqd
        rw [hc8] at HFIN HLA
        rw [hl8] at HRG HLN HLA
        clear hcm hdg hl8 hc8
        have MB := HMB.out
        clear HMB
        go_wp2_with fail
        refine wp_region_held_drew (S := fun w' => Chg wr w' []) (by kernel_rfl) ((Chg.refl wr _).drew) (fun hHeld => ?_)
        replace Q := Q.chg ((Chg.refl wr []).drew)
        refine take_val (v := ?_) 0 (some 65) rfl (by kernel_rfl) (by kernel_rfl) (by kernel_rfl) (fun _ _ _ h => h) rfl rfl (fun w hSw => ?_) hHeld ?_
        rotate_left
        · (go_simp; try with_reducible rfl)
        try simp only [Act.put, List.setIfInBounds_toArray, List.set_cons_zero, List.set_cons_succ]
        refine take_load 2 (some 67) cm rfl (by kernel_rfl) (by kernel_rfl) (by kernel_rfl) (fun _ _ _ h => h) rfl rfl 73 _ rfl mb rfl 73 _ (fun w hSw => MB.chg hSw (by simp)) Tryd.underlying73 rfl (by rw [HCM.out]; exact MInfo) hHeld ?_
        try simp only [Act.put, List.setIfInBounds_toArray, List.set_cons_zero, List.set_cons_succ]
        refine wpAnyH_ready (rs := [1]) (by kernel_rfl) (by simp) ?_
        refine AllReadyH.cons (o := _) rfl (fun K hK => ?_) ?_
        ·
          go_simp
          refine (Q.hm.state (by have := HNL.out; omega)).mono ?_
          rintro e x1 ⟨z, rfl, hz, SZ1, _, k1⟩
          replace Q := Q.chg k1
          go_wp2_with fail
          refine hK.out _ _ (hHeld.trans1 k1) (fun hHeld => ?_)
          clear hK K
          try simp only [Act.put, List.setIfInBounds_toArray, List.set_cons_zero, List.set_cons_succ]
          clear k1
          refine wpAnyH_ready (rs := [3]) (by kernel_rfl) (by simp) ?_
          refine AllReadyH.cons (o := _) rfl (fun K hK => ?_) ?_
          ·
            go_simp
            refine (HSAM.out _ _ SZ1 Q.sl).mono ?_
            rintro e x2 ⟨rfl, k2⟩
            replace Q := Q.chg k2
            go_wp2_with fail
            refine hK.out _ _ (hHeld.trans1 k2) (fun hHeld => ?_)
            clear hK K
            try simp only [Act.put, List.setIfInBounds_toArray, List.set_cons_zero, List.set_cons_succ]
            clear k2
            refine take_val (v := ?_) 4 (some 69) rfl (by kernel_rfl) (by kernel_rfl) (by kernel_rfl) (fun _ _ _ h => h) rfl rfl (fun w hSw => ?_) hHeld ?_
            rotate_left
            · (go_simp; try with_reducible rfl)
            try simp only [Act.put, List.setIfInBounds_toArray, List.set_cons_zero, List.set_cons_succ]
            refine wpAnyH_done (by kernel_rfl) ?_ _
            go_wp2_with fail
            exact ⟨⟨i + 1, hb, n, S, T, tv, HI1.out, by go_num, rfl, HLE.out, Q⟩, HMI.out⟩
          exact AllReadyH.nil
        exact AllReadyH.nil
      by_cases hw4 : wt = 4
      · subst hw4
        have MB0 := Q.mm
        have HCS : Hid ((mC S tv n).size = 10) := mC_size _ _ _
        obtain ⟨cm, hcm⟩ : ∃ c, mC S tv n = c := ⟨_, rfl⟩
        rw [hcm] at MB0 HCS
        clear hcm
        go_wp2_with fail
        refine (Q.hm.reset Q.gl).mono ?_
        rintro e x1 ⟨rfl, k1, HH⟩
        have MB1 := MB0.chg k1 (by simp; have := HNE.out; omega)
        have GL1 := Q.gl.chg k1 (by simp; have := HWH.out; have := HW2.out; omega) (by simp; have := HWH.out; have := HW2.out; omega)
        have CC1 := Q.cc.new k1 HWH.out
        clear k1 Q MB0 cw
        go_wp2_with fail
        refine (HWR.out _).mono ?_
        rintro e x2 ⟨rfl, k2⟩
        replace MB1 := MB1.chg k2 (by simp)
        replace GL1 := GL1.chg k2 (by simp) (by simp)
        replace CC1 := CC1.trans1 k2
        replace HH := HH.chg k2 (by simp)
        clear k2
        go_wp2_with (first
          | (refine wpList_build_c rfl 73 _ rfl cz (by go_simp; exact HBM.out) ?_)
          | (refine wpList_store_row rfl 73 _ _ rfl mb cz rfl rfl 73 _ MB1 (by rw [HBZ.out]; exact MInfo) (by rw [HCS.out, HBZ.out]) HBO.out ?_))
        have KSR : Chg x2 (x2.setRow mb cz) [mb] := Chg.of (gb_setRow (gb_refl x2 (some mb)) cz)
        have Q2 := HI.begin (w := w) (HH.chg KSR (by simp; have := HNE.out; omega)) ((MB1.setRow cz).to HCZ.out.symm) HWH.out HWM.out HNE.out (GL1.chg KSR (by simp; have := HWM.out; have := HW2.out; omega) (by simp; have := HWM.out; have := HW2.out; omega)) HW2.out (CC1.new KSR HWM.out)
        exact ⟨⟨i + 1, hb, 0, IV, fun _ => 0, .slice none 0 0, HI1.out, by go_num, rfl, Nat.zero_le _, Q2⟩, HMI.out⟩
      by_cases hw5 : wt = 5
      · subst hw5
        go_wp2_with fail
        refine (Q.hm.state (by have := HNL.out; omega)).mono ?_
        rintro e x1 ⟨z, rfl, hz, SZ1, _, k1⟩
        replace Q := Q.chg k1
        have HX1 : Hid (hb < x1.heap.size ∧ mb < x1.heap.size ∧ w.heap.size ≤ x1.heap.size) := ⟨Q.hm.lt, Q.mm.lt, Q.cc.size⟩
        have HSN : Hid (∀ h2, x1.heap.size ≤ h2 → Off tv [h2]) := fun h2 hh => Q.sl.new [h2] (by simpa using hh)
        clear k1 cw
        go_wp2_with fail
        refine (Resume_m n S T (some ⟨z, 0, none⟩) (n % 128) _ (by have := HNL.out; omega) SZ1).mono ?_
        rintro e x2 ⟨h2, rfl, hh2, HH2, k2⟩
        replace Q := Q.chg k2
        clear k2 SZ1
        go_wp2_with fail
        refine (num_s 0 _ (by decide) (by decide)).mono ?_
        rintro e x3 ⟨rfl, rfl⟩
        have KB : Chg x3 (x3.alloc (.cells #[.int .u8 ((1 : Nat) : Int)] 5)) [] := (Chg.refl x3 []).alloc _
        have S1 := one_sl x3 1 (by decide)
        have HX2 : Hid (hb < x3.heap.size) := Q.hm.lt
        replace Q := Q.chg KB
        replace HH2 := HH2.chg KB (by simp)
        clear KB
        go_wp2_with fail
        refine (Q.hm.write Q.gl Q.us (by have := HWH.out; have := HW2.out; omega) S1 (by
          intro g' o' n' c' he hg'
          simp only [Value.slice.injEq, Option.some.injEq, Addr.mk.injEq] at he
          simp only [List.mem_singleton] at hg'
          have := HX2.out
          omega) (by have := HNL.out; omega)).mono ?_
        rintro e x4 ⟨rfl, k4, _⟩
        have Q3 : HI w x4 h2 mb n S T tv := ⟨HH2.chg k4 (by simp; have := HX1.out; omega), Q.mm.chg k4 (by simp; have := HNE.out; omega), Q.sl.chg k4 Q.oh, HSN.out h2 hh2, Q.om, by have := HX1.out; omega, Q.hn, by have := HX1.out; omega, Q.us, Q.gl.chg k4 (by simp; have := HWH.out; have := HW2.out; omega) (by simp; have := HWH.out; have := HW2.out; omega), HW2.out, Q.cc.new k4 HWH.out⟩
        clear Q HH2 k4
        go_wp2_with fail
        exact ⟨⟨i + 1, h2, n, S, T, tv, HI1.out, by go_num, rfl, HLE.out, Q3⟩, HMI.out⟩
      have b0 : (wt == 0) = false := by simpa using hw0
      have b1 : (wt == 1) = false := by simpa using hw1
      have b2 : (wt == 2) = false := by simpa using hw2
      have b3 : (wt == 3) = false := by simpa using hw3
      have b4 : (wt == 4) = false := by simpa using hw4
      have b5 : (wt == 5) = false := by simpa using hw5
      go_wp2_with fail
      exact ⟨⟨i + 1, hb, n, S, T, tv, HI1.out, by go_num, rfl, HLE.out, Q⟩, HMI.out⟩
    · obtain rfl : i = K := by omega
      have hI : ¬ (i : Int) < (i : Int) := by omega
      have HCM : Hid ((mC S tv n).size = 10) := mC_size _ _ _
      have HC8 : Hid ((mC S tv n)[8]? = some tv) := mC_tail _ _ _
      have HC9 : Hid ((mC S tv n)[9]? = some (.int .u64 (n : Int))) := mC_len _ _ _
      have HRG : Hid (∀ W, Blk W mb (mC S tv n) 73 → W.rangeAt mb 0 (vL 8 S)) := fun W h => mid_range h
      have HFIN : Hid (∀ w, Sl w tv (n % 128) T → Calls Tryd.prog 31 #[.agg (vC 8 S), tv, .int .u64 (n : Int)] w fun e w' => e = .returned (.agg (yC 64 (fh S T n))) ∧ Chg w w' []) := fun w h => Finish_m S T n _ w Q.us (by have := HNL.out; omega) h
      have HSAM : Hid (∀ w v, Sl w v (n % 128) T → Sl w tv (n % 128) T → Calls Tryd.prog 33 #[.agg (mC S v n), .agg (mC S tv n)] w fun e w' => e = .returned (.bool true) ∧ Chg w w' []) := fun w v h1 h2 => sameMid_t S T v tv _ n w Q.us h1 h2
      have HLN : Hid ((vL 8 S).length = 8) := vL_len _ _
      have HLA : Hid ((vL 8 S).toArray = vC 8 S) := vL_arr _ _
      have heqd : ∀ w, (Op.equalIn 10000 42 (.agg (yC 64 (fh S T n))) (.agg (yC 64 (fh S T n)))).run Tryd.prog w = .ok true w := fun w => by rw [eq_dig, eqy_self]
      have HMB : Hid (Blk wr mb (mC S tv n) 73) := Q.mm
      obtain ⟨cm, hcm⟩ : ∃ c, mC S tv n = c := ⟨_, rfl⟩
      have HCMe : Hid (mC S tv n = cm) := hcm
      obtain ⟨dg, hdg⟩ : ∃ d, yC 64 (fh S T n) = d := ⟨_, rfl⟩
      have HDG : Hid (yC 64 (fh S T n) = dg) := hdg
      obtain ⟨l8, hl8⟩ : ∃ l, vL 8 S = l := ⟨_, rfl⟩
      obtain ⟨c8, hc8⟩ : ∃ c, vC 8 S = c := ⟨_, rfl⟩
      rw [hcm] at HCM HC8 HC9 HRG HSAM HMB
      rw [hdg] at HFIN heqd
      rw [hc8] at HFIN HLA
      rw [hl8] at HRG HLN HLA
      clear hcm hdg hl8 hc8
      have MB := HMB.out
      clear HMB
      go_wp2_with fail
      refine wp_region_held_drew (S := fun w' => Chg wr w' []) (by kernel_rfl) ((Chg.refl wr _).drew) (fun hHeld => ?_)
      replace Q := Q.chg ((Chg.refl wr []).drew)
      refine take_val (v := ?_) 0 (some 95) rfl (by kernel_rfl) (by kernel_rfl) (by kernel_rfl) (fun _ _ _ h => h) rfl rfl (fun w hSw => ?_) hHeld ?_
      rotate_left
      · (go_simp; try with_reducible rfl)
      try simp only [Act.put, List.setIfInBounds_toArray, List.set_cons_zero, List.set_cons_succ]
      refine take_load 2 (some 97) cm rfl (by kernel_rfl) (by kernel_rfl) (by kernel_rfl) (fun _ _ _ h => h) rfl rfl 73 _ rfl mb rfl 73 _ (fun w hSw => MB.chg hSw (by simp)) Tryd.underlying73 rfl (by rw [HCM.out]; exact MInfo) hHeld ?_
      try simp only [Act.put, List.setIfInBounds_toArray, List.set_cons_zero, List.set_cons_succ]
      refine wpAnyH_ready (rs := [1]) (by kernel_rfl) (by simp) ?_
      refine AllReadyH.cons (o := _) rfl (fun K hK => ?_) ?_
      ·
        go_simp
        refine (Q.hm.state (by have := HNL.out; omega)).mono ?_
        rintro e x1 ⟨z, rfl, hz, SZ1, _, k1⟩
        replace Q := Q.chg k1
        go_wp2_with fail
        refine hK.out _ _ (hHeld.trans1 k1) (fun hHeld => ?_)
        clear hK K
        try simp only [Act.put, List.setIfInBounds_toArray, List.set_cons_zero, List.set_cons_succ]
        clear k1
        refine wpAnyH_ready (rs := [3]) (by kernel_rfl) (by simp) ?_
        refine AllReadyH.cons (o := _) rfl (fun K hK => ?_) ?_
        ·
          go_simp
          refine (HSAM.out _ _ SZ1 Q.sl).mono ?_
          rintro e x2 ⟨rfl, k2⟩
          replace Q := Q.chg k2
          go_wp2_with fail
          refine hK.out _ _ (hHeld.trans1 k2) (fun hHeld => ?_)
          clear hK K
          try simp only [Act.put, List.setIfInBounds_toArray, List.set_cons_zero, List.set_cons_succ]
          clear k2 SZ1
          refine take_val (v := ?_) 4 (some 99) rfl (by kernel_rfl) (by kernel_rfl) (by kernel_rfl) (fun _ _ _ h => h) rfl rfl (fun w hSw => ?_) hHeld ?_
          rotate_left
          · (go_simp; try with_reducible rfl)
          try simp only [Act.put, List.setIfInBounds_toArray, List.set_cons_zero, List.set_cons_succ]
          refine take_val (v := ?_) 5 (some 100) rfl (by kernel_rfl) (by kernel_rfl) (by kernel_rfl) (fun _ _ _ h => h) rfl rfl (fun w hSw => ?_) hHeld ?_
          rotate_left
          · (go_simp; try with_reducible rfl)
          try simp only [Act.put, List.setIfInBounds_toArray, List.set_cons_zero, List.set_cons_succ]
          refine take_val (v := ?_) 7 (some 102) rfl (by kernel_rfl) (by kernel_rfl) (by kernel_rfl) (fun _ _ _ h => h) rfl rfl (fun w hSw => ?_) hHeld ?_
          rotate_left
          · (go_simp; try with_reducible rfl)
          try simp only [Act.put, List.setIfInBounds_toArray, List.set_cons_zero, List.set_cons_succ]
          refine take_val (v := (.agg c8)) 8 (some 103) rfl (by kernel_rfl) (by kernel_rfl) (by kernel_rfl) (fun _ _ _ h => h) rfl rfl (fun w hSw => ?_) hHeld ?_
          · exact exec_load_mid w 53 (.tmp 102) rfl mb 0 rfl l8 _ (HRG.out _ (MB.chg hSw (by simp))) Tryd.underlying53 rfl (by rw [HLN.out]; exact S8Info) HLA.out
          try simp only [Act.put, List.setIfInBounds_toArray, List.set_cons_zero, List.set_cons_succ]
          refine take_val (v := ?_) 9 (some 104) rfl (by kernel_rfl) (by kernel_rfl) (by kernel_rfl) (fun _ _ _ h => h) rfl rfl (fun w hSw => ?_) hHeld ?_
          rotate_left
          · (go_simp; try with_reducible rfl)
          try simp only [Act.put, List.setIfInBounds_toArray, List.set_cons_zero, List.set_cons_succ]
          refine take_val (v := ?_) 10 (some 105) rfl (by kernel_rfl) (by kernel_rfl) (by kernel_rfl) (fun _ _ _ h => h) rfl rfl (fun w hSw => ?_) hHeld ?_
          rotate_left
          · have cx := ((MB.chg hSw (by simp)).cell 8).trans HC8.out
            (go_simp; try with_reducible rfl)
          try simp only [Act.put, List.setIfInBounds_toArray, List.set_cons_zero, List.set_cons_succ]
          refine take_val (v := ?_) 11 (some 106) rfl (by kernel_rfl) (by kernel_rfl) (by kernel_rfl) (fun _ _ _ h => h) rfl rfl (fun w hSw => ?_) hHeld ?_
          rotate_left
          · (go_simp; try with_reducible rfl)
          try simp only [Act.put, List.setIfInBounds_toArray, List.set_cons_zero, List.set_cons_succ]
          refine take_val (v := ?_) 12 (some 107) rfl (by kernel_rfl) (by kernel_rfl) (by kernel_rfl) (fun _ _ _ h => h) rfl rfl (fun w hSw => ?_) hHeld ?_
          rotate_left
          · have cx := ((MB.chg hSw (by simp)).cell 9).trans HC9.out
            (go_simp; try with_reducible rfl)
          try simp only [Act.put, List.setIfInBounds_toArray, List.set_cons_zero, List.set_cons_succ]
          refine wpAnyH_ready (rs := [6]) (by kernel_rfl) (by simp) ?_
          refine AllReadyH.cons (o := _) rfl (fun K hK => ?_) ?_
          ·
            go_simp
            refine (Q.hm.sum Q.gl Q.us (by have := HNL.out; omega)).mono ?_
            rintro e x3 ⟨rfl, k3⟩
            replace Q := Q.chg k3
            go_wp2_with fail
            rw [HDG.out]
            refine hK.out _ _ (hHeld.trans1 k3) (fun hHeld => ?_)
            clear hK K
            try simp only [Act.put, List.setIfInBounds_toArray, List.set_cons_zero, List.set_cons_succ]
            clear k3
            refine wpAnyH_ready (rs := [13]) (by kernel_rfl) (by simp) ?_
            refine AllReadyH.cons (o := _) rfl (fun K hK => ?_) ?_
            ·
              go_simp
              refine (HFIN.out _ Q.sl).mono ?_
              rintro e x4 ⟨rfl, k4⟩
              replace Q := Q.chg k4
              go_wp2_with fail
              refine hK.out _ _ (hHeld.trans1 k4) (fun hHeld => ?_)
              clear hK K
              try simp only [Act.put, List.setIfInBounds_toArray, List.set_cons_zero, List.set_cons_succ]
              clear k4
              refine take_val (v := ?_) 14 (some 109) rfl (by kernel_rfl) (by kernel_rfl) (by kernel_rfl) (fun _ _ _ h => h) rfl rfl (fun w hSw => ?_) hHeld ?_
              rotate_left
              · (go_simp; try with_reducible rfl)
              try simp only [Act.put, List.setIfInBounds_toArray, List.set_cons_zero, List.set_cons_succ]
              refine take_val (v := ?_) 15 (some 110) rfl (by kernel_rfl) (by kernel_rfl) (by kernel_rfl) (fun _ _ _ h => h) rfl rfl (fun w hSw => ?_) hHeld ?_
              rotate_left
              · (go_simp; try with_reducible rfl)
              try simp only [Act.put, List.setIfInBounds_toArray, List.set_cons_zero, List.set_cons_succ]
              refine take_val (v := ?_) 16 (some 111) rfl (by kernel_rfl) (by kernel_rfl) (by kernel_rfl) (fun _ _ _ h => h) rfl rfl (fun w hSw => ?_) hHeld ?_
              rotate_left
              · (go_simp; try with_reducible rfl)
              try simp only [Act.put, List.setIfInBounds_toArray, List.set_cons_zero, List.set_cons_succ]
              refine wpAnyH_ready (rs := [17]) (by kernel_rfl) (by simp) ?_
              refine AllReadyH.cons (o := _) rfl (fun K hK => ?_) ?_
              ·
                go_simp
                refine (alive_s _ Q.gl).mono ?_
                rintro e x5 ⟨rfl, k5⟩
                replace Q := Q.chg k5
                go_wp2_with fail
                refine hK.out _ _ (hHeld.trans1 k5) (fun hHeld => ?_)
                clear hK K
                try simp only [Act.put, List.setIfInBounds_toArray, List.set_cons_zero, List.set_cons_succ]
                clear k5
                refine take_val (v := ?_) 18 (some 113) rfl (by kernel_rfl) (by kernel_rfl) (by kernel_rfl) (fun _ _ _ h => h) rfl rfl (fun w hSw => ?_) hHeld ?_
                rotate_left
                · (go_simp; try with_reducible rfl)
                try simp only [Act.put, List.setIfInBounds_toArray, List.set_cons_zero, List.set_cons_succ]
                refine take_val (v := ?_) 19 (some 2) rfl (by kernel_rfl) (by kernel_rfl) (by kernel_rfl) (fun _ _ _ h => h) rfl rfl (fun w hSw => ?_) hHeld ?_
                rotate_left
                · (go_simp; try with_reducible rfl)
                try simp only [Act.put, List.setIfInBounds_toArray, List.set_cons_zero, List.set_cons_succ]
                refine wpAnyH_done (by kernel_rfl) ?_ _
                go_wp2_with fail
                go_ret
                exact ⟨rfl, Q.cc⟩
              exact AllReadyH.nil
            exact AllReadyH.nil
          exact AllReadyH.nil
        exact AllReadyH.nil
      exact AllReadyH.nil
end Go.Proofs.YtjcgjhncdaplcaaDoor
