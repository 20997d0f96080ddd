/- ShamirOwn: the walk. -/
import Derived.Test.YtledggdoehnlcaaGreatOvM
import Derived.Test.YtledggdoehnlcaaGreatMgE
set_option linter.unusedVariables false
set_option linter.unusedSimpArgs false
set_option linter.unnecessarySimpa false
namespace Go.Proofs.YtledggdoehnlcaaGreat
open Go.RowKit N

def bNil : Nat → Value := fun _ => .slice none 0 0
theorem zBook : #[Value.slice none 0 0, .slice none 0 0, .slice none 0 0, .slice none 0 0, .slice none 0 0, .slice none 0 0, .slice none 0 0, .slice none 0 0, .slice none 0 0, .slice none 0 0, .slice none 0 0, .slice none 0 0, .slice none 0 0, .slice none 0 0, .slice none 0 0, .slice none 0 0, .slice none 0 0, .slice none 0 0, .slice none 0 0, .slice none 0 0, .slice none 0 0] = bkC bNil := by kernel_rfl
theorem zeroBk : (Tryz.prog.info? 65).bind (·.zero) = some (.agg (bkC bNil)) := by kernel_rfl
theorem built_3o : Tryz.prog.built 24 [(0, .int .u8 3)] = some (feC 3) := by kernel_rfl
def fO : Nat → Int := fun j => if j = 0 then 3 else 1
def dO : Nat → Int := fun j => if j = 0 then 4 else if j = 1 then 2 else 9
theorem fill_o2 : Instr.fill (fun i => some (i * 32, 32)) ((Array.range (2 * 32)).map ((Value.agg z32).cells[· % (Value.agg z32).cells.size]!)) [(0, fe 3), (1, fe 1)] = some (feL 3 ++ feL 1).toArray := by kernel_rfl
theorem fill_o3 : Instr.fill (fun i => some (i * 1, 1)) ((Array.range (3 * 1)).map ((Value.int .i64 0).cells[· % (Value.int .i64 0).cells.size]!)) [(0, .int .i64 4), (1, .int .i64 2), (2, .int .i64 9)] = some #[.int .i64 4, .int .i64 2, .int .i64 9] := by kernel_rfl
theorem fill_o4 : Instr.fill (fun i => some (i * 33, 33)) ((Array.range (3 * 33)).map ((Value.agg zSh).cells[· % (Value.agg zSh).cells.size]!)) [(0, .agg (shC 1 0)), (1, .agg (shC 2 0)), (2, .agg (shC 3 0))] = some (shL 1 ++ shL 2 ++ shL 3).toArray := by kernel_rfl
theorem sb_o2 {w : World} {o : Nat} (h : Blk w o (feL 3 ++ feL 1).toArray 24) : Sb w o 2 fO := Blk.to h (by kernel_rfl)
theorem ib_o3 {w : World} {o : Nat} (h : Blk w o #[.int .i64 4, .int .i64 2, .int .i64 9] 3) : Ib w o 3 dO := Blk.to h (by kernel_rfl)
theorem hb_o3 {w : World} {o : Nat} (h : Blk w o (shL 1 ++ shL 2 ++ shL 3).toArray 28) : Hb w o 3 dA (fun _ => 0) := Blk.to h (by kernel_rfl)
theorem alc_blk {y u : World} {C : Array Value} {T : TypeId} (k : Chg (y.alloc (.cells C T)) u []) : Blk u y.heap.size C T := (Blk.new y C T).chg k (by simp)
theorem alc_le {y u : World} {o : Obj} {l : List Nat} (_k : Chg (y.alloc o) u l) : y.heap.size ≤ (y.alloc o).heap.size := by simp
theorem AnH.lo {lo lo' hi : Nat} {w : World} {x : Value} (h : AnH lo hi w x) (hl : lo' ≤ lo) : AnH lo' hi w x := by
  rcases h with h | ⟨o, N, c, F, h1, h2, h3⟩
  · exact Or.inl h
  · exact Or.inr ⟨o, N, c, F, by omega, h2, h3⟩
set_option maxHeartbeats 32000000 in
set_option maxRecDepth 100000 in
theorem own_walk (vc vi vs vp : Value) (M N S P : Nat) (f : Nat → Nat) (d sd sy X Y : Nat → Int) (t : Int) (hM : M ≤ 4611686018427387904) (hN : N ≤ 4611686018427387904) (hS : S ≤ 4611686018427387904) (hP : P ≤ 4611686018427387904) (w : World) (hLc : Ls w vc M f) (hLi : Il w vi N d) (hLs : Hl w vs S sd sy) (hLp : Pl w vp P X Y) :
    Calls Tryz.prog 4 #[vc, vi, vs, .int .i64 t, vp] w fun e w' => e = .returned (.bool true) ∧ Chg w w' [] := by
  have HBn : Hid (M ≤ 4611686018427387904 ∧ N ≤ 4611686018427387904 ∧ S ≤ 4611686018427387904 ∧ P ≤ 4611686018427387904) := ⟨hM, hN, hS, hP⟩
  have HC : Hid (Ls w vc M f) := hLc
  have HI : Hid (Il w vi N d) := hLi
  have HS : Hid (Hl w vs S sd sy) := hLs
  have HP : Hid (Pl w vp P X Y) := hLp
  obtain ⟨ie, hie, hiz, his, hib⟩ := scRowL
  obtain ⟨ii, hii, hiiz, hiis, _⟩ := intRowS
  obtain ⟨ih, hih, hihz, hihs, hihb⟩ := shRow
  clear hM hN hS hP hLc hLi hLs hLp
  go_enter Tryz.func4, Tryz.ntmps4
  go_wp2_with fail
  refine (alive_s _).mono ?_
  rintro e w1 ⟨rfl, k1⟩
  go_wp2_with (with_reducible refine alloc_w rfl 65 rfl (.agg (bkC bNil)) zeroBk (bkC bNil) rfl ?_; intro gb w2 hgb Bg k2)
  have C : Chg w w2 [] := k1.trans1 k2
  obtain ⟨bx, hbx⟩ : ∃ bx, w.heap.size = bx := ⟨_, rfl⟩
  have B0 : Bd w2 gb bx (3 * 0) 0 0 w2.heap.size w2.heap.size w2.heap.size := ⟨[], [], [], 0, 0, 0, by omega, by omega, by omega, fun y hy => by simp at hy, fun y hy => by simp at hy, fun y hy => by simp at hy, BkV.zero (fun _ _ => rfl) Bg (by have := k1.size; omega)⟩
  have hb2 : bx ≤ w2.heap.size := by have := C.size; omega
  have HBX : Hid (w.heap.size = bx) := hbx
  clear k1 k2 hgb Bg
  --CUT0
  go_loopw [12] (fun tk wr => ∃ k : Nat, k ≤ 3 ∧ tk = .int .i64 (k : Int) ∧ (bx ≤ wr.heap.size ∧ Bd wr gb bx (3 * k) k k wr.heap.size wr.heap.size wr.heap.size) ∧ Chg w wr []) (fun tk _ => (3 - intOf tk).toNat)
  case atStart => exact ⟨0, by omega, rfl, ⟨hb2, B0⟩, C⟩
  case round =>
    clear C B0 hb2
    obtain ⟨k, hk, rfl, BK, C⟩ := hrel
    by_cases h3 : k = 3
    · have hI : ¬ (k : Int) < 3 := by omega
      obtain ⟨L, M', O, K, J, H, q1, q2, q3, _, _, _, q7⟩ := BK.2
      go_wp2_with fail
      --CUT1
      refine (q7.apart (by omega) (by omega) (by omega)).mono ?_
      rintro e w3 ⟨rfl, l, hc, hl⟩
      go_wp2_with fail
      go_ret
      exact ⟨rfl, C.trans hc (fun x hx => Or.inr (by have := hl x hx; omega))⟩
    · have hI : (k : Int) < 3 := by omega
      have e1 : IntKind.i64.wrap ((k : Int) + 1) = (k : Int) + 1 := by rw [IntKind.wrap_i64]; omega
      have HK : Hid (k + 1 ≤ 3) := by show k + 1 ≤ 3; omega
      have HM : Hid ((3 - intOf (.int .i64 ((k : Int) + 1))).toNat < (3 - intOf (.int .i64 (k : Int))).toNat) := by show (3 - intOf (.int .i64 ((k : Int) + 1))).toNat < (3 - intOf (.int .i64 (k : Int))).toNat; simp [intOf] <;> omega
      by_cases h1 : k = 1
      · have hE : ((k : Int) == 1) = true := by simp; omega
        clear h1 h3
        --CUT2
        have B3 := built_3o
        have B1 := built_1
        go_wp2_with (first
          | (with_reducible refine build_1 ?_ 24 0 (.const (.int .u8 3)) ?_ (.int .u8 3) ?_ (feC 3) B3 ?_
             · rfl
             · rfl
             · rfl)
          | (with_reducible refine build_1 ?_ 24 0 (.const (.int .u8 1)) ?_ (.int .u8 1) ?_ (feC 1) B1 ?_
             · rfl
             · rfl
             · rfl)
          | (with_reducible refine bsl2_w ?_ 29 24 (.tmp 36) (.tmp 37) ?_ (fe 3) (fe 1) ?_ ?_ (feL 3 ++ feL 1).toArray ie (.agg z32) Tryz.underlying29 hie hiz 32 his ?_ ?_ fill_o2 ?_
             · rfl
             · rfl
             · rfl
             · rfl
             · omega
             · omega
             intro g1 y1 hg1 Bc j1)
          | (with_reducible refine bsl_w ?_ 26 3 3 #[(0, .const (.int .i64 4)), (1, .const (.int .i64 2)), (2, .const (.int .i64 9))] ?_ [(0, .int .i64 4), (1, .int .i64 2), (2, .int .i64 9)] ?_ #[.int .i64 4, .int .i64 2, .int .i64 9] ii (.int .i64 0) Tryz.underlying26 hii hiiz 1 hiis ?_ ?_ fill_o3 ?_
             · rfl
             · rfl
             · simp [Act.eval]
             · omega
             · omega
             intro g2 y2 hg2 Bi j2))
        have LC : Ls y2 (.slice (some ⟨g1, 0, none⟩) 2 2) 2 (nT fO) := ((sb_o2 Bc).chg j2 (by simp)).ls (by omega) (fun j _ => by unfold fO R256; split <;> decide) (Nat.le_refl _)
        have LI : Il y2 (.slice (some ⟨g2, 0, none⟩) 3 3) 3 dO := (ib_o3 Bi).il (by omega)
        have j0 : Chg wr y2 [] := j1.trans1 j2
        replace C := C.trans1 j0
        replace BK : bx ≤ y2.heap.size ∧ Bd y2 gb bx (3 * k) k k wr.heap.size wr.heap.size wr.heap.size := ⟨by have := BK.1; have := j0.size; omega, BK.2.chg j0⟩
        have hj0 := j0.size
        clear j0 j1 j2 Bc Bi hg1 hg2
        refine (Split_a _ _ 2 (nT fO) (by omega) 3 dO (by omega) _ (LC.chg0 ((Chg.refl y2 []).alloc _)) (LI.chg ((Chg.refl y2 []).alloc _))).mono ?_
        rintro e u1 ⟨x1, c1, rfl, A1, k0⟩
        have Bh := alc_blk k0
        have LS : Hl u1 (.slice (some ⟨y2.heap.size, 0, none⟩) 3 3) 3 dA (fun _ => 0) := (hb_o3 (Blk.to Bh (by kernel_rfl))).hl (by omega) (fun j _ => by unfold R256; decide) (Nat.le_refl _)
        replace A1 := A1.lo (alc_le k0)
        have k1 : Chg y2 u1 [] := ((Chg.refl y2 []).alloc _).trans1 k0
        clear k0 Bh
        go_wp2_with fail
        refine (Weights_a _ 3 dO (by omega) _ (LI.chg k1)).mono ?_
        rintro e u2 ⟨x2, c2, rfl, A2, k2⟩
        go_wp2_with fail
        refine (Through_a _ P X Y HBn.out.2.2.2 _ (HP.out.chg ((C.trans1 k1).trans1 k2))).mono ?_
        rintro e u3 ⟨x3, c3, rfl, A3, k3⟩
        go_wp2_with fail
        refine (Correct_a _ 3 dA (fun _ => 0) (by omega) t _ (LS.chg (k2.trans1 k3))).mono ?_
        rintro e u4 ⟨x4, z4, c4, rfl, A4, I4, k4⟩
        have hs0 := BK.1
        have hs1 := k1.size
        have hs2 := k2.size
        have hs3 := k3.size
        have hs4 := k4.size
        replace A1 := ((A1.chg0 k2).chg0 k3).chg0 k4
        replace A2 := (A2.chg0 k3).chg0 k4
        replace A3 := A3.chg0 k4
        replace C := (((C.trans1 k1).trans1 k2).trans1 k3).trans1 k4
        have BB := (((BK.2.chg k1).chg k2).chg k3).chg k4
        clear BK k1 k2 k3 k4 LC LI LS
        go_wp2_with fail
        --R141
        refine (BB.addH (by omega) A1 (by omega) (by omega) (by omega)).mono ?_
        rintro e u5 ⟨rfl, B5, l5, q5, f5⟩
        replace A2 := A2.chg q5 f5.2.1
        replace A3 := A3.chg q5 f5.2.1
        replace A4 := A4.chg q5 f5.2.1
        replace I4 := I4.chg q5 f5.2.2.1
        replace C := C.trans q5 (fun x hx => Or.inr (by have := f5.1 x hx; omega))
        have hq5 := q5.size
        clear q5 f5 BB A1
        go_wp2_with fail
        refine (B5.addS (by omega) A2 (by omega) (by omega) (by omega)).mono ?_
        rintro e u6 ⟨rfl, B6, l6, q6, f6⟩
        replace A3 := A3.chg q6 f6.2.1
        replace A4 := A4.chg q6 f6.2.1
        replace I4 := I4.chg q6 f6.2.2.1
        replace C := C.trans q6 (fun x hx => Or.inr (by have := f6.1 x hx; omega))
        have hq6 := q6.size
        clear q6 f6 B5 A2
        go_wp2_with fail
        refine (B6.addS (by omega) A3 (by omega) (by omega) (by omega)).mono ?_
        rintro e u7 ⟨rfl, B7, l7, q7, f7⟩
        replace A4 := A4.chg q7 f7.2.1
        replace I4 := I4.chg q7 f7.2.2.1
        replace C := C.trans q7 (fun x hx => Or.inr (by have := f7.1 x hx; omega))
        have hq7 := q7.size
        clear q7 f7 B6 A3
        go_wp2_with fail
        refine (B7.addS (by omega) A4 (by omega) (by omega) (by omega)).mono ?_
        rintro e u8 ⟨rfl, B8, l8, q8, f8⟩
        replace I4 := I4.chg q8 f8.2.2.1
        replace C := C.trans q8 (fun x hx => Or.inr (by have := f8.1 x hx; omega))
        have hq8 := q8.size
        clear q8 f8 B7 A4
        go_wp2_with fail
        refine (B8.addI (by omega) I4 (by omega) (by omega) (by omega)).mono ?_
        rintro e u9 ⟨rfl, B9, l9, q9, f9⟩
        replace C := C.trans q9 (fun x hx => Or.inr (by have := f9.1 x hx; omega))
        have hq9 := q9.size
        clear q9 f9 B8 I4
        --R61
        go_wp2_with fail
        have e3 : 3 * (k + 1) = 3 * k + 1 + 1 + 1 := by omega
        have B10 : Bd u9 gb bx (3 * (k + 1)) (k + 1) (k + 1) u9.heap.size u9.heap.size u9.heap.size := by rw [e3]; exact B9.mono (by omega) (by omega) (by omega)
        exact ⟨⟨k + 1, HK.out, rfl, ⟨by omega, B10⟩, C⟩, HM.out⟩
      · have hE : ((k : Int) == 1) = false := by simp; omega
        have LC := HC.out.chg0 C
        have LI := HI.out.chg C
        have LS := HS.out.chg C
        clear h1 h3
        --CUT3
        go_wp2_with fail
        --R100
        refine (Split_a _ _ M f HBn.out.1 N d HBn.out.2.1 _ LC LI).mono ?_
        rintro e u1 ⟨x1, c1, rfl, A1, k1⟩
        go_wp2_with fail
        refine (Weights_a _ N d HBn.out.2.1 _ (LI.chg k1)).mono ?_
        rintro e u2 ⟨x2, c2, rfl, A2, k2⟩
        go_wp2_with fail
        refine (Through_a _ P X Y HBn.out.2.2.2 _ (HP.out.chg ((C.trans1 k1).trans1 k2))).mono ?_
        rintro e u3 ⟨x3, c3, rfl, A3, k3⟩
        go_wp2_with fail
        refine (Correct_a _ S sd sy HBn.out.2.2.1 t _ ((LS.chg k1).chg (k2.trans1 k3))).mono ?_
        rintro e u4 ⟨x4, z4, c4, rfl, A4, I4, k4⟩
        have hs0 := BK.1
        have hs1 := k1.size
        have hs2 := k2.size
        have hs3 := k3.size
        have hs4 := k4.size
        replace A1 := ((A1.chg0 k2).chg0 k3).chg0 k4
        replace A2 := (A2.chg0 k3).chg0 k4
        replace A3 := A3.chg0 k4
        replace C := (((C.trans1 k1).trans1 k2).trans1 k3).trans1 k4
        have BB := (((BK.2.chg k1).chg k2).chg k3).chg k4
        clear BK k1 k2 k3 k4 LC LI LS
        go_wp2_with fail
        --R140
        refine (BB.addH (by omega) A1 (by omega) (by omega) (by omega)).mono ?_
        rintro e u5 ⟨rfl, B5, l5, q5, f5⟩
        replace A2 := A2.chg q5 f5.2.1
        replace A3 := A3.chg q5 f5.2.1
        replace A4 := A4.chg q5 f5.2.1
        replace I4 := I4.chg q5 f5.2.2.1
        replace C := C.trans q5 (fun x hx => Or.inr (by have := f5.1 x hx; omega))
        have hq5 := q5.size
        clear q5 f5 BB A1
        go_wp2_with fail
        refine (B5.addS (by omega) A2 (by omega) (by omega) (by omega)).mono ?_
        rintro e u6 ⟨rfl, B6, l6, q6, f6⟩
        replace A3 := A3.chg q6 f6.2.1
        replace A4 := A4.chg q6 f6.2.1
        replace I4 := I4.chg q6 f6.2.2.1
        replace C := C.trans q6 (fun x hx => Or.inr (by have := f6.1 x hx; omega))
        have hq6 := q6.size
        clear q6 f6 B5 A2
        go_wp2_with fail
        refine (B6.addS (by omega) A3 (by omega) (by omega) (by omega)).mono ?_
        rintro e u7 ⟨rfl, B7, l7, q7, f7⟩
        replace A4 := A4.chg q7 f7.2.1
        replace I4 := I4.chg q7 f7.2.2.1
        replace C := C.trans q7 (fun x hx => Or.inr (by have := f7.1 x hx; omega))
        have hq7 := q7.size
        clear q7 f7 B6 A3
        go_wp2_with fail
        refine (B7.addS (by omega) A4 (by omega) (by omega) (by omega)).mono ?_
        rintro e u8 ⟨rfl, B8, l8, q8, f8⟩
        replace I4 := I4.chg q8 f8.2.2.1
        replace C := C.trans q8 (fun x hx => Or.inr (by have := f8.1 x hx; omega))
        have hq8 := q8.size
        clear q8 f8 B7 A4
        go_wp2_with fail
        refine (B8.addI (by omega) I4 (by omega) (by omega) (by omega)).mono ?_
        rintro e u9 ⟨rfl, B9, l9, q9, f9⟩
        replace C := C.trans q9 (fun x hx => Or.inr (by have := f9.1 x hx; omega))
        have hq9 := q9.size
        clear q9 f9 B8 I4
        --R60
        go_wp2_with fail
        have e3 : 3 * (k + 1) = 3 * k + 1 + 1 + 1 := by omega
        have B10 : Bd u9 gb bx (3 * (k + 1)) (k + 1) (k + 1) u9.heap.size u9.heap.size u9.heap.size := by rw [e3]; exact B9.mono (by omega) (by omega) (by omega)
        exact ⟨⟨k + 1, HK.out, rfl, ⟨by omega, B10⟩, C⟩, HM.out⟩
end Go.Proofs.YtledggdoehnlcaaGreat
