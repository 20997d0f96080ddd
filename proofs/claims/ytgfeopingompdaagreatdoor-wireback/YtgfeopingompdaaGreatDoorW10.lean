/- wire.Encode of a message that may be. -/
import Derived.Test.YtgfeopingompdaaGreatDoorW2
import Derived.Test.YtgfeopingompdaaGreatDoorW9
import Derived.Test.YtgfeopingompdaaGreatDoorMwJ
import Derived.Lib.SlBytesConst
import Derived.ArgAppend
set_option linter.unusedVariables false
set_option linter.unusedSimpArgs false
set_option linter.unnecessarySimpa false
namespace Go.Proofs.YtgfeopingompdaaGreatDoor
open Go.RowKit

/-- RIME, the version, the kind. -/
def mgB : Nat → Nat := fun j => if j = 0 then 82 else if j = 1 then 73 else if j = 2 then 77 else 69
def vkB (k : Nat) : Nat → Nat := fun j => if j = 0 then 1 else k
theorem own_new (w : World) (n : Nat) (f : Nat → Nat) (hn : n ≤ 1000) (hf : ∀ i, i < n → f i < 256) : Own (w.alloc (.cells (yC n f) 5)) w.heap.size (.slice (some ⟨w.heap.size, 0, none⟩) n n) n f :=
  ⟨⟨by rw [yL_len, Nat.mul_one], Or.inr ⟨w.heap.size, n, yC n f, rfl, Nat.le_refl _, Blk.new w _ _, Nat.le_refl _, by unfold maxLen; omega, by rw [yC_size, Nat.mul_one], by
    show List.take (n * 1) (yC n f).toList = yL n f
    rw [Nat.mul_one]
    unfold yC yL
    rw [List.take_of_length_le (by simp)]⟩⟩, hf⟩
/-- append to bytes without room: a new block. -/
theorem append_full {w : World} {ops : Array Oper} {rest : List Oper} {o : Oper} {a : Act} {Q : Exit → Act → World → Prop} (hgd : o.guard = none) (so xo : Operand)
    (ho : o.op = .call { callee := .builtin .append, args := #[so, xo], argTypes := #[29, 29] }) (y n gx m : Nat) (f g : Nat → Nat) (hs : a.eval so = .slice (some ⟨y, 0, none⟩) n n) (hx : a.eval xo = .slice (some ⟨gx, 0, none⟩) m m)
    (hB : Bs w y 0 n f) (hX : Bs w gx 0 m g) (hm : 0 < m) (hnm : n + m ≤ 1000000)
    (h : ∀ v' w', Own w' w.heap.size v' (n + m) (cat f n g) → Chg w w' [] → wpList Tryz.prog ops Q rest (a.put o.dst v') w') : wpList Tryz.prog ops Q (o :: rest) a w := by
  obtain ⟨i, hi, hz, h1, h2⟩ := u8Row
  have holds : ∀ b, (some (⟨y, 0, none⟩ : Addr)) = some b → ∀ j u, (yL n f)[j]? = some u → w.cell? (b.add j) = some u := by
    intro b hb j u hj
    cases hb
    obtain ⟨hj1, rfl⟩ := yL_some _ _ _ _ hj
    refine add_cell ?_
    exact hB.cell j hj1
  have hnews : ∀ j u, (yL m g)[j]? = some u → w.cell? ((⟨gx, 0, none⟩ : Addr).add j) = some u := by
    intro j u hj
    obtain ⟨hj1, rfl⟩ := yL_some _ _ _ _ hj
    refine add_cell ?_
    exact hX.cell j hj1
  refine wpList_append_grows w hgd so xo 29 ho 5 i (.int .u8 0) 1 1 Tryz.underlying29 hi hz h1 h2 rfl (by decide) (some ⟨y, 0, none⟩) n n (yL n f) hs (fun hh => by cases hh) (by rw [yL_len, Nat.mul_one]) holds ⟨gx, 0, none⟩ m m (yL m g) hx (by rw [yL_len, Nat.mul_one]) hnews (yL_one m g) (by omega) (by simp only [maxLen]; omega) (by omega) ?_
  intro v' w' q1 q2
  rw [yL_cat] at q1
  refine h v' w' ⟨q1, fun k hk => ?_⟩ (Chg.grown (v := .slice none 0 0) q2)
  unfold cat
  by_cases a : k < n
  · rw [if_pos a]; exact hB.bd k a
  · rw [if_neg a]; exact hX.bd _ (by omega)
theorem bs_new (w : World) (n : Nat) (f : Nat → Nat) (fr : Nat × Nat) (hf : ∀ i, i < n → f i < 256) : Bs (w.alloc (.cells (yC n f) 5 fr)) w.heap.size 0 n f := ⟨by simp, hf, fun i hi => by
  have hb : (w.alloc (.cells (yC n f) 5 fr)).heap[w.heap.size]? = some (.cells (yC n f) 5 fr) := by show (w.heap.push _)[w.heap.size]? = _; simp
  rw [Nat.zero_add]
  simp only [World.cell?, hb]
  unfold yC
  simp [hi]⟩
theorem mgB_lt (i : Nat) : mgB i < 256 := by unfold mgB; split <;> (try split) <;> (try split) <;> omega
theorem vkB_lt (k i : Nat) (hk : k < 256) : vkB k i < 256 := by unfold vkB; split <;> omega
theorem sl_vk (w : World) (k : Nat) (hk : k < 256) : Sl (w.alloc (.cells #[.int .u8 1, .int .u8 (k : Int)] 5)) (.slice (some ⟨w.heap.size, 0, none⟩) 2 2) 2 (vkB k) :=
  (Blk.new w (yC 2 (vkB k)) 5).sly (fun i _ => by unfold vkB; split <;> omega) (by omega)
/-- The head, the frame without its sum, the frame. -/
def heB (k n : Nat) : Nat → Nat := cat (cat mgB 4 (vkB k)) (4 + 2) (b4 n)
def fwB (k n : Nat) (F : Nat → Nat) : Nat → Nat := cat (heB k n) (4 + 2 + 4) F
def frB (k n : Nat) (F : Nat → Nat) : Nat → Nat := cat (fwB k n F) (4 + 2 + 4 + n) (sha (fwB k n F) (4 + 2 + 4 + n))
theorem s4_bs {w : World} {g : Nat} {f : Nat → Nat} {N : Nat} {T : TypeId} (h : Blk w g (yC 4 (sha f N)) T) : Bs w g 0 4 (sha f N) := ⟨h.lt, fun i _ => by
  show dig _ i < 256
  unfold dig
  omega, fun i hi => by
  rw [Nat.zero_add, h.cell]
  unfold yC
  simp [hi]⟩
theorem msInfo : (Tryz.prog.info? 35).map (·.size) = some 231 := by kernel_rfl
set_option maxHeartbeats 16000000 in
set_option maxRecDepth 100000 in
theorem Encode_ok (m : Ms) (k : Nat) (hk : m.kind = (k : Int)) (hk6 : k < 256) (n : Nat) (F : Nat → Nat) (hn : n ≤ 2000000) (w : World) (hG : Gl w)
    (hC : ∀ W, Chg w W [] → Calls Tryz.prog 31 #[.agg (msC m)] W fun e w' => e = .returned .nilIface ∧ Chg W w' [])
    (hB : ∀ W, Chg w W [] → Calls Tryz.prog 32 #[.agg (msC m)] W fun e w' => ∃ v, e = .returned v ∧ Own w' W.heap.size v n F ∧ Chg W w' []) :
    Calls Tryz.prog 8 #[.agg (msC m)] w fun e w' => ∃ v, e = .returned (.tuple #[v, .nilIface]) ∧ Own w' w.heap.size v (4 + 2 + 4 + n + 4) (frB k n F) ∧ Chg w w' [] := by
  have HK : Hid (m.kind = (k : Int)) := hk
  have HN : Hid (n ≤ 2000000 ∧ k < 256) := ⟨hn, hk6⟩
  have HG : Hid (Gl w) := hG
  have HC : Hid (∀ W, Chg w W [] → Calls Tryz.prog 31 #[.agg (msC m)] W fun e w' => e = .returned .nilIface ∧ Chg W w' []) := hC
  have HBd : Hid (∀ W, Chg w W [] → Calls Tryz.prog 32 #[.agg (msC m)] W fun e w' => ∃ v, e = .returned v ∧ Own w' W.heap.size v n F ∧ Chg W w' []) := hB
  have ek : IntKind.u8.wrap (k : Int) = (k : Int) := by rw [u8_conv]; omega
  clear hk hn hG hC hB hk6
  go_enter Tryz.func8, Tryz.ntmps8
  go_wp2_with (first
    | (refine box_w rfl 35 _ rfl (msC m) rfl ?_; intro g w1 hg B k1)
    | (refine wpList_load_row rfl 35 _ rfl g rfl 35 _ (0, 0) _ B Tryz.underlying35 rfl (by rw [msC_size]; exact msInfo) ?_))
  refine (HC.out _ k1).mono ?_
  rintro e w2 ⟨rfl, k2⟩
  have B2 := B.chg k2 (by simp)
  have C2 := k1.trans1 k2
  clear B
  go_wp2_with (refine wpList_load_row rfl 35 _ rfl g rfl 35 _ (0, 0) _ B2 Tryz.underlying35 rfl (by rw [msC_size]; exact msInfo) ?_)
  --CUT0
  refine (HBd.out _ C2).mono ?_
  rintro e w3 ⟨v3, rfl, O3, k3⟩
  have C3 := C2.trans1 k3
  obtain ⟨p3, q3, rfl⟩ := O3.sl.fm
  have ck := ms_at (B2.chg k3 (by simp)) 0 _ (ms_kind m)
  rw [HK.out] at ck
  obtain ⟨wa, hwa⟩ : ∃ z, z = w3.alloc (.cells #[.int .u8 82, .int .u8 73, .int .u8 77, .int .u8 69] 5 (4, 5)) := ⟨_, rfl⟩
  have hcv : (convert 29 29 (.slice (some ⟨w3.heap.size, 0, none⟩) 4 4)).run Tryz.prog (w3.alloc (.cells #[.int .u8 82, .int .u8 73, .int .u8 77, .int .u8 69] 5)) = .ok (.slice (some ⟨w3.heap.size, 0, none⟩) 4 4) wa := by
    rw [hwa]; exact Lib.run_convert_bytes_const w3 29 5 _ 4 4 Tryz.underlying29 Tryz.underlying5
  have ka : Chg w3 wa [] := by rw [hwa]; exact (Chg.refl w3 []).alloc _
  have Ba : Bs wa w3.heap.size 0 4 mgB := by rw [hwa]; exact bs_new w3 4 mgB (4, 5) (fun i _ => mgB_lt i)
  have c3 := ms_at ((B2.chg k3 (by simp)).chg ka (by simp)) 0 _ (ms_kind m)
  rw [HK.out] at c3
  have hla : w3.heap.size < wa.heap.size := Ba.lt
  have Bb : Bs (wa.alloc (.cells #[.int .u8 1, .int .u8 (k : Int)] 5)) w3.heap.size 0 4 mgB := Ba.alloc _
  have Bc : Bs (wa.alloc (.cells #[.int .u8 1, .int .u8 (k : Int)] 5)) wa.heap.size 0 2 (vkB k) := bs_new wa 2 (vkB k) (0, 0) (fun i _ => vkB_lt k i HN.out.2)
  clear hwa ck
  go_wp2_with (first
    | (with_reducible refine append_full ?_ (.tmp 17) (.tmp 21) ?_ w3.heap.size 4 wa.heap.size 2 mgB (vkB k) ?_ ?_ Bb Bc ?_ ?_ ?_
       · rfl
       · rfl
       · rfl
       · rfl
       · omega
       · omega
       intro v6 w6 O6 k6))
  obtain ⟨b6, hb6⟩ : ∃ z, z = (wa.alloc (.cells #[.int .u8 1, .int .u8 (k : Int)] 5)).heap.size := ⟨_, rfl⟩
  have hb6' : w3.heap.size ≤ b6 := by rw [hb6]; simp; omega
  have K6 : Chg w3 w6 [] := (ka.alloc _).trans1 k6
  rw [← hb6] at O6
  have hs6 : b6 ≤ w6.heap.size := by rw [hb6]; exact k6.size
  have C6 := C3.trans1 K6
  have O3s := O3.chg K6 (fun _ _ => by simp)
  have HOb : Hid (∀ j, j ∈ ob (Value.slice p3 n q3) → j < b6) := fun j hj => Nat.lt_of_lt_of_le (O3.ob_ge j hj).2 hb6'
  have Hb6 : Hid (w.heap.size ≤ b6) := Nat.le_trans C3.size hb6'
  clear hb6 Bb Bc Ba c3 hcv ka k6 K6 hla
  go_wp2_with fail
  --CUT1
  refine (putLength_s v6 b6 (4 + 2) n _ (by have := HN.out; omega) (by omega) _ O6 hs6).mono ?_
  rintro e w7 ⟨v7, rfl, O7, c7⟩
  obtain ⟨p7, q7, rfl⟩ := O7.sl.fm
  have S3 : Sl w7 (.slice p3 n q3) n F := by
    obtain ⟨l, h1, h2⟩ := c7
    exact (O3s.chg h1 (fun j hj hl => by have := h2 j hl; have := HOb.out j hj; omega)).sl
  have C7 : Chg w w7 [] := Cb.low C6 c7 Hb6.out
  have S7 := O7.sl
  have hB7 := Blk.new w7 #[.slice p7 (4 + 2 + 4) q7, .slice p3 n q3] 29
  have kz : Chg w7 (w7.alloc (.cells #[.slice p7 (4 + 2 + 4) q7, .slice p3 n q3] 29)) [] := (Chg.refl w7 []).alloc _
  have hq := Concat_2 w7.heap.size 2 (.slice p7 (4 + 2 + 4) q7) (.slice p3 n q3) (4 + 2 + 4) n (heB k n) F (by omega) (by have := HN.out; omega) _ hB7 (S7.chg kz (Off.nil _)) (S3.chg kz (Off.nil _))
  go_wp2_with fail
  --CUT2
  refine hq.mono ?_
  rintro e w8 ⟨v8, rfl, O8, k8⟩
  have C8 := (C7.alloc _).trans1 k8
  have O8b : Own w8 w.heap.size v8 (4 + 2 + 4 + n) (fwB k n F) := O8.base (Nat.le_trans C7.size (by simp))
  clear hq O8 k8 S7 S3 hB7 O7
  go_wp2_with fail
  --CUT3
  refine (sumOf_s v8 (4 + 2 + 4 + n) (fwB k n F) w8 (HG.out.chg C8 (by simp) (by simp)) O8b.sl (by have := HN.out; omega)).mono ?_
  rintro e w9 ⟨rfl, k9⟩
  have C9 := C8.trans1 k9
  have O9 := O8b.chg k9 (fun _ _ => by simp)
  have Hz9 : Hid (w.heap.size ≤ w9.heap.size) := C9.size
  go_wp2_with (first
    | (with_reducible refine alloc_w rfl 100 rfl (.agg (yC 4 (fun _ => 0))) zero4 (yC 4 (fun _ => 0)) rfl ?_; intro sb wb hsb BS kb)
    | (refine store_w BS rfl 100 _ _ (yC 4 (sha (fwB k n F) (4 + 2 + 4 + n))) rfl rfl rfl s4Info rfl (yC_one 4 _) ?_; intro wc BC kc; have Oc := O9.chg (kb.new kc hsb) (fun _ _ => by simp); have Sc := (s4_bs BC).sl 4 (by omega) (by omega); have hzc : w.heap.size ≤ wc.heap.size := Nat.le_trans Hz9.out (kb.new kc hsb).size)
    | (with_reducible refine append_y ?_ (.tmp 32) (.tmp 33) ?_ w.heap.size v8 _ (4 + 2 + 4 + n) 4 _ (sha (fwB k n F) (4 + 2 + 4 + n)) ?_ ?_ Oc Sc ?_ ?_ ?_
       · rfl
       · rfl
       · rfl
       · rfl
       · have := HN.out; omega
       · exact hzc
       intro vd wd Od kd))
  --CUT4
  go_ret2
  exact ⟨_, rfl, Od, (C9.trans1 (kb.new kc hsb)).trans kd (fun j hj => Or.inr (Oc.ob_ge j hj).1)⟩
end Go.Proofs.YtgfeopingompdaaGreatDoor
