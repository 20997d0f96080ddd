/- Joined: W1, W2. -/
import Derived.Test.YtgjclegpnbjlkaaGreatDoorWW
import Derived.Test.YtgjclegpnbjlkaaGreatDoorMwQ
import Derived.Laws.Cover3
/- wire: numbers and commitments as bytes. -/
set_option linter.unusedVariables false
set_option linter.unusedSimpArgs false
set_option linter.unnecessarySimpa false
namespace Go.Proofs.YtgjclegpnbjlkaaGreatDoor
open Go.RowKit

set_option maxHeartbeats 4000000 in
set_option maxRecDepth 100000 in
theorem isKind_s (k : Int) (w : World) : Calls Tryz.prog 71 #[.int .i64 k] w fun e w' => e = .returned (.bool (decide (1 ≤ k ∧ k ≤ 6))) ∧ w' = w := by
  by_cases h1 : 1 ≤ k
  · by_cases h2 : k ≤ 6
    · have hd : decide (1 ≤ k ∧ k ≤ 6) = true := by simp; omega
      rw [hd]; clear hd
      go_enter Tryz.func71, Tryz.ntmps71
      go_wp2_with fail
      go_ret
      exact ⟨rfl, rfl⟩
    · have hd : decide (1 ≤ k ∧ k ≤ 6) = false := by simp; omega
      rw [hd]; clear hd
      go_enter Tryz.func71, Tryz.ntmps71
      go_wp2_with fail
      go_ret
      exact ⟨rfl, rfl⟩
  · have hd : decide (1 ≤ k ∧ k ≤ 6) = false := by simp; omega
    rw [hd]; clear hd
    go_enter Tryz.func71, Tryz.ntmps71
    go_wp2_with fail
    go_ret
    exact ⟨rfl, rfl⟩
set_option maxHeartbeats 4000000 in
set_option maxRecDepth 100000 in
theorem isSigner_s (k : Int) (w : World) : Calls Tryz.prog 94 #[.int .i64 k] w fun e w' => e = .returned (.bool (decide (1 ≤ k ∧ k ≤ 255))) ∧ w' = w := by
  by_cases h1 : 1 ≤ k
  · by_cases h2 : k ≤ 255
    · have hd : decide (1 ≤ k ∧ k ≤ 255) = true := by simp; omega
      rw [hd]; clear hd
      go_enter Tryz.func94, Tryz.ntmps94
      go_wp2_with fail
      go_ret
      exact ⟨rfl, rfl⟩
    · have hd : decide (1 ≤ k ∧ k ≤ 255) = false := by simp; omega
      rw [hd]; clear hd
      go_enter Tryz.func94, Tryz.ntmps94
      go_wp2_with fail
      go_ret
      exact ⟨rfl, rfl⟩
  · have hd : decide (1 ≤ k ∧ k ≤ 255) = false := by simp; omega
    rw [hd]; clear hd
    go_enter Tryz.func94, Tryz.ntmps94
    go_wp2_with fail
    go_ret
    exact ⟨rfl, rfl⟩
set_option maxHeartbeats 4000000 in
set_option maxRecDepth 100000 in
theorem isParty_s (k : Int) (w : World) : Calls Tryz.prog 72 #[.int .i64 k] w fun e w' => e = .returned (.bool (decide (0 ≤ k ∧ k ≤ 255))) ∧ w' = w := by
  by_cases h0 : k = 0
  · subst h0
    go_enter Tryz.func72, Tryz.ntmps72
    go_wp2_with fail
    go_ret
    exact ⟨rfl, rfl⟩
  · have hz : (k == 0) = false := by simpa using h0
    have hd : decide (0 ≤ k ∧ k ≤ 255) = decide (1 ≤ k ∧ k ≤ 255) := by
      rw [decide_eq_decide]; omega
    have q := isSigner_s k
    obtain ⟨b, hb⟩ : ∃ b, decide (1 ≤ k ∧ k ≤ 255) = b := ⟨_, rfl⟩
    rw [hd, hb]
    rw [hb] at q
    clear hd hb
    go_enter Tryz.func72, Tryz.ntmps72
    go_wp2_with fail
    refine (q _).mono ?_
    rintro e w' ⟨rfl, rfl⟩
    go_wp2_with fail
    go_ret
    exact ⟨rfl, rfl⟩
theorem cat_as (f : Nat → Nat) (m : Nat) (g : Nat → Nat) (n : Nat) (h : Nat → Nat) (i : Nat) : cat (cat f m g) (m + n) h i = cat f m (cat g n h) i := by
  unfold cat
  by_cases a : i < m
  · rw [if_pos (show i < m + n by omega), if_pos a, if_pos a]
  · by_cases b : i < m + n
    · rw [if_pos b, if_neg a, if_neg a, if_pos (show i - m < n by omega)]
    · rw [if_neg b, if_neg a, if_neg (show ¬ i - m < n by omega), show i - (m + n) = i - m - n by omega]
theorem cat_at (f : Nat → Nat) (m : Nat) {g g' : Nat → Nat} {i : Nat} (h : ∀ j, g j = g' j) : cat f m g i = cat f m g' i := by
  unfold cat
  by_cases a : i < m
  · rw [if_pos a, if_pos a]
  · rw [if_neg a, if_neg a, h]
/-- Four bytes of a number, the highest first. -/
def b4 (n : Nat) : Nat → Nat := fun j => if j = 0 then n / 16777216 % 256 else if j = 1 then n / 65536 % 256 else if j = 2 then n / 256 % 256 else n % 256
theorem b4_lt (n j : Nat) : b4 n j < 256 := by unfold b4; split <;> (try split) <;> (try split) <;> omega
theorem u8_conv (x : Int) : IntKind.u8.wrap x = x % 256 := IntKind.wrap_u8' x
theorem sl_b4 (n : Nat) (hn : n < 4294967296) (w : World) : Sl (w.alloc (.cells #[.int .u8 ((n : Int) / 16777216), .int .u8 ((n : Int) / 65536 % 256), .int .u8 ((n : Int) / 256 % 256), .int .u8 ((n : Int) % 256)] 5)) (.slice (some ⟨w.heap.size, 0, none⟩) 4 4) 4 (b4 n) := by
  have e : #[Value.int .u8 ((n : Int) / 16777216), .int .u8 ((n : Int) / 65536 % 256), .int .u8 ((n : Int) / 256 % 256), .int .u8 ((n : Int) % 256)] = yC 4 (b4 n) := by
    have e0 : ((n : Int) / 16777216) = ((b4 n 0 : Nat) : Int) := by show _ = ((n / 16777216 % 256 : Nat) : Int); omega
    have e1 : ((n : Int) / 65536 % 256) = ((b4 n 1 : Nat) : Int) := by show _ = ((n / 65536 % 256 : Nat) : Int); omega
    have e2 : ((n : Int) / 256 % 256) = ((b4 n 2 : Nat) : Int) := by show _ = ((n / 256 % 256 : Nat) : Int); omega
    have e3 : ((n : Int) % 256) = ((b4 n 3 : Nat) : Int) := by show _ = ((n % 256 : Nat) : Int); omega
    rw [e0, e1, e2, e3]; rfl
  rw [e]
  exact (Blk.new w _ _).sly (fun i _ => b4_lt n i) (by omega)
set_option maxHeartbeats 4000000 in
set_option maxRecDepth 100000 in
theorem putLength_s (v : Value) (base m n : Nat) (f : Nat → Nat) (hn : n < 4294967296) (hm : m ≤ 1000000000) (w : World) (hO : Own w base v m f) (hb : base ≤ w.heap.size) :
    Calls Tryz.prog 31 #[v, .int .i64 (n : Int)] w fun e w' => ∃ v', e = .returned v' ∧ Own w' base v' (m + 4) (cat f m (b4 n)) ∧ Cb base w w' := by
  have HO : Hid (Own w base v m f) := hO
  have HM : Hid (m ≤ 1000000000 ∧ base ≤ w.heap.size) := ⟨hm, hb⟩
  have HS := sl_b4 n hn w
  clear hO hm hb
  go_enter Tryz.func31, Tryz.ntmps31
  go_wp2_with (with_reducible refine append_c ?_ (.tmp 5) (.tmp 17) ?_ base v _ m 4 f (b4 n) ?_ ?_ (HO.out.chg ((Chg.refl w []).alloc _) (fun _ _ => by simp)) HS ?_ ?_ ?_
               · rfl
               · rfl
               · rfl
               · rfl
               · have := HM.out; omega
               · have := HM.out; simp; omega
               intro v' w' O c)
  go_ret
  exact ⟨v', rfl, O, (Cb.none ((Chg.refl w []).alloc _)).trans c⟩
/-- A commitment's cells, its bytes. -/
def cmC (d : Int) (h b : Nat → Nat) : Array Value := (.int .i64 d :: (yL 32 h ++ yL 32 b)).toArray
theorem cmC_size (d : Int) (h b : Nat → Nat) : (cmC d h b).size = 65 := by simp [cmC, yL]
def cmB (d : Nat) (h b : Nat → Nat) : Nat → Nat := fun j => if j = 0 then d else if j < 33 then h (j - 1) else b (j - 33)
theorem cm_id {w : World} {g : Nat} {d : Int} {h b : Nat → Nat} {T : TypeId} (B : Blk w g (cmC d h b) T) : w.cell? ⟨g, 0, none⟩ = some (.int .i64 d) := by rw [B.cell]; rfl
theorem cm_h {w : World} {g : Nat} {d : Int} {h b : Nat → Nat} {T : TypeId} (B : Blk w g (cmC d h b) T) (hh : ∀ i, i < 32 → h i < 256) : Bs w g 1 32 h := ⟨B.lt, hh, fun i hi => by
  rw [B.cell]
  unfold cmC
  rw [List.getElem?_toArray, Nat.add_comm 1 i, List.getElem?_cons_succ, List.getElem?_append_left (by rw [yL_len]; exact hi), yL_get _ _ _ hi]⟩
theorem cm_b {w : World} {g : Nat} {d : Int} {h b : Nat → Nat} {T : TypeId} (B : Blk w g (cmC d h b) T) (hb : ∀ i, i < 32 → b i < 256) : Bs w g 33 32 b := ⟨B.lt, hb, fun i hi => by
  rw [B.cell]
  unfold cmC
  rw [List.getElem?_toArray, show 33 + i = (32 + i) + 1 by omega, List.getElem?_cons_succ, List.getElem?_append_right (by rw [yL_len]; omega), yL_len, show 32 + i - 32 = i by omega, yL_get _ _ _ hi]⟩
theorem Bs.sl {w : World} {g o n : Nat} {f : Nat → Nat} (h : Bs w g o n f) (c : Nat) (hc : n ≤ c) (hc2 : c ≤ 9223372036854775807) : Sl w (.slice (some ⟨g, o, none⟩) n c) n f := Or.inr ⟨g, o, c, rfl, hc, hc2, h⟩
theorem sl_b1 (d : Int) (hd : 0 ≤ d ∧ d < 256) (w : World) : Sl (w.alloc (.cells #[.int .u8 d] 5)) (.slice (some ⟨w.heap.size, 0, none⟩) 1 1) 1 (fun _ => d.toNat) := by
  have e : #[Value.int .u8 d] = yC 1 (fun _ => d.toNat) := by
    have e0 : d = ((d.toNat : Nat) : Int) := by omega
    rw [e0]; rfl
  rw [e]
  exact (Blk.new w _ _).sly (fun i _ => by omega) (by omega)
set_option maxHeartbeats 8000000 in
set_option maxRecDepth 100000 in
theorem putPair_s (v : Value) (base m : Nat) (f : Nat → Nat) (d : Int) (h b : Nat → Nat) (hd : 0 ≤ d ∧ d < 256) (hh : ∀ i, i < 32 → h i < 256) (hbb : ∀ i, i < 32 → b i < 256) (hm : m ≤ 1000000000) (w : World) (hO : Own w base v m f) (hb : base ≤ w.heap.size) :
    Calls Tryz.prog 76 #[v, .agg (cmC d h b)] w fun e w' => ∃ v', e = .returned v' ∧ Own w' base v' (m + 65) (cat f m (cmB d.toNat h b)) ∧ Cb base w w' ∧ Kp w w' := by
  have HO : Hid (Own w base v m f) := hO
  have HM : Hid (m ≤ 1000000000 ∧ base ≤ w.heap.size) := ⟨hm, hb⟩
  have HH : Hid ((∀ i, i < 32 → h i < 256) ∧ ∀ i, i < 32 → b i < 256) := ⟨hh, hbb⟩
  have ed : IntKind.u8.wrap d = d := by rw [u8_conv]; omega
  have HD : Hid (0 ≤ d ∧ d < 256) := hd
  have HT : Hid (¬ (27 : TypeId) = 5) := by show ¬ (27 : TypeId) = 5; decide
  clear hO hm hb hh hbb hd
  go_enter Tryz.func76, Tryz.ntmps76
  go_wp2_with (first
    | (refine box_w rfl 27 _ rfl (cmC d h b) rfl ?_; intro g w1 hg B k1; have c0 := cm_id B; have O1 := HO.out.chg (k1.alloc (.cells #[.int .u8 d] 5)) (fun _ _ => by simp); have S1 := sl_b1 d HD.out w1; have B1 := B.alloc (.cells #[.int .u8 d] 5); have s1 := k1.size)
    | (with_reducible refine append_y ?_ (.tmp 5) (.tmp 9) ?_ base v _ m 1 f (fun _ => d.toNat) ?_ ?_ O1 S1 ?_ ?_ ?_
       · rfl
       · rfl
       · rfl
       · rfl
       · have := HM.out; omega
       · have := HM.out; simp; omega
       intro v2 w2 O2 q2; have B2 := B1.chg q2 (O1.nt B1 HT.out); have S2 := (cm_h B2 HH.out.1).sl 32 (by omega) (by omega); have s2 := q2.size)
    | (with_reducible refine append_y ?_ (.tmp 11) (.tmp 13) ?_ base v2 _ (m + 1) 32 _ h ?_ ?_ O2 S2 ?_ ?_ ?_
       · rfl
       · rfl
       · rfl
       · rfl
       · have := HM.out; omega
       · have := HM.out; simp at s2; omega
       intro v3 w3 O3 q3; have B3 := B2.chg q3 (O2.nt B2 HT.out); have S3 := (cm_b B3 HH.out.2).sl 32 (by omega) (by omega); have s3 := q3.size)
    | (with_reducible refine append_y ?_ (.tmp 15) (.tmp 17) ?_ base v3 _ (m + 1 + 32) 32 _ b ?_ ?_ O3 S3 ?_ ?_ ?_
       · rfl
       · rfl
       · rfl
       · rfl
       · have := HM.out; omega
       · have := HM.out; simp at s2; omega
       intro v4 w4 O4 q4))
  go_ret
  refine ⟨v4, rfl, O4.cg (fun i hi => ?_), (((Cb.none (k1.alloc _)).trans (O1.cb q2)).trans (O2.cb q3)).trans (O3.cb q4), (((Kp.of (k1.alloc _)).trans (O1.kp q2)).trans (O2.kp q3)).trans (O3.kp q4)⟩
  rw [cat_as, cat_as, cat_at f m (i := i) (g' := cmB d.toNat h b) (fun j => ?_)]
  unfold cat cmB
  by_cases a1 : j < 1
  · rw [if_pos a1, if_pos (show j = 0 by omega)]
  · rw [if_neg a1, if_neg (show ¬ j = 0 by omega)]
    by_cases a2 : j - 1 < 32
    · rw [if_pos a2, if_pos (show j < 33 by omega)]
    · rw [if_neg a2, if_neg (show ¬ j < 33 by omega), show j - 1 - 32 = j - 33 by omega]
end Go.Proofs.YtgjclegpnbjlkaaGreatDoor

/- wire: the sum. -/
namespace Go.Proofs.YtgjclegpnbjlkaaGreatDoor
open Go.RowKit

theorem zero4 : (Tryz.prog.info? 98).bind (·.zero) = some (.agg (yC 4 (fun _ => 0))) := by kernel_rfl
theorem zeroD : (Tryz.prog.info? 143).bind (·.zero) = some (.agg (yC 64 (fun _ => 0))) := by kernel_rfl
theorem s4Info : (Tryz.prog.info? 98).map (·.size) = some 4 := by kernel_rfl
theorem dInfo : (Tryz.prog.info? 143).map (·.size) = some 64 := by kernel_rfl
theorem dig4 {w : World} {g : Nat} {f : Nat → Nat} {T : TypeId} (h : Blk w g (yC 64 f) T) : w.rangeAt g 0 (yL 4 f) := fun j v hv => by
  obtain ⟨hj, rfl⟩ := yL_some _ _ _ _ hv
  rw [Nat.zero_add, h.cell]
  unfold yC
  rw [List.getElem?_toArray, List.getElem?_map, List.getElem?_range (show j < 64 by omega)]
  rfl
set_option maxHeartbeats 4000000 in
set_option maxRecDepth 100000 in
theorem sumOf_s (v : Value) (m : Nat) (f : Nat → Nat) (w : World) (hG : Gl w) (hv : Sl w v m f) (hm : m < 18446744073709551616) :
    Calls Tryz.prog 32 #[v] w fun e w' => e = .returned (.agg (yC 4 (sha f m))) ∧ Chg w w' [] := by
  go_enter Tryz.func32, Tryz.ntmps32
  go_wp2_with (first
    | (with_reducible refine alloc_w rfl 98 rfl (.agg (yC 4 (fun _ => 0))) zero4 (yC 4 (fun _ => 0)) rfl ?_; intro rb w1 hrb BR k1))
  refine (Sum_s v m f w1 (hG.chg k1 (by simp) (by simp)) (hv.chg k1 (Off.nil v)) hm).mono ?_
  rintro e w2 ⟨rfl, k2⟩
  have BR2 := BR.chg k2 (by simp)
  have HK : Hid (w1.heap.size ≤ w2.heap.size) := k2.size
  have HRB : Hid (rb < w2.heap.size) := BR2.lt
  have hat : ∀ g w, (Instr.arrayAt 98 (.slice (some ⟨g, 0, none⟩) 4 64)).run Tryz.prog w = .ok (.pointer (some ⟨g, 0, none⟩)) w := fun g w => run_arrayAt (w := w) 98 _ 4 _ 4 64 Tryz.underlying98 (by omega)
  clear BR
  go_wp2_with (first
    | (with_reducible refine alloc_w rfl 143 rfl (.agg (yC 64 (fun _ => 0))) zeroD (yC 64 (fun _ => 0)) rfl ?_; intro db w3 hdb BD k3)
    | (refine store_w BD rfl 143 _ _ (yC 64 (sha f m)) rfl rfl rfl dInfo rfl (yC_one 64 _) ?_; intro w4 BD4 k4; have hr := dig4 BD4; have BR4 := (BR2.chg k3 (by simp)).chg k4 (by have := HRB.out; simp; omega))
    | (refine wpList_load_mid rfl 98 _ rfl db 0 rfl (yL 4 (sha f m)) _ hr Tryz.underlying98 rfl (by rw [yL_len]; exact s4Info) ?_)
    | (refine store_w BR4 rfl 98 _ _ (yC 4 (sha f m)) rfl rfl rfl s4Info rfl (yC_one 4 _) ?_; intro w5 BR5 k5))
  have C : Chg w w5 [] := ((((k1.trans1 k2).trans1 k3).new k4 (by have := k1.size; have := HK.out; omega))).new k5 hrb
  exact bodyPost_ret (results_cell_row Tryz.results32 _ _ rb 98 (yC 4 (sha f m)) (0, 0) _ rfl BR5 Tryz.underlying98 rfl s4Info) rfl ⟨rfl, C⟩
end Go.Proofs.YtgjclegpnbjlkaaGreatDoor
