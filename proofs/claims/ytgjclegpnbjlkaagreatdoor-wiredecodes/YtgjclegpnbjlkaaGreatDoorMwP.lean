/- Joined: Giv, GivB. -/
import Derived.Test.YtgjclegpnbjlkaaGreatDoorMwA
set_option linter.all false
namespace Go.Proofs.YtgjclegpnbjlkaaGreatDoor
set_option maxHeartbeats 4000000
set_option maxRecDepth 100000
open Go.RowKit
def mkb (k : Nat) : Nat := (30602 + 7 * k) % 256
theorem mkb_lt (k : Nat) : mkb k < 256 := Nat.mod_lt _ (by decide)
theorem markBytes_s (k : Nat) (hk : k ≤ 140737488355331) (w : World) : Calls Tryz.prog 56 #[.int .i64 987, .int .i64 (k : Int)] w fun x w' => x = .returned (.int .u8 ((mkb k : Nat) : Int)) ∧ w' = w := by
 have e1 : IntKind.i64.wrap ((k : Int) * 7) = (k : Int) * 7 := by rw [IntKind.wrap_i64]; omega
 have e2 : IntKind.i64.wrap (30597 + (k : Int) * 7) = 30597 + (k : Int) * 7 := by rw [IntKind.wrap_i64]; omega
 have e3 : IntKind.i64.wrap (30597 + (k : Int) * 7 + 5) = 30597 + (k : Int) * 7 + 5 := by rw [IntKind.wrap_i64]; omega
 have e4 : IntKind.u8.wrap (30597 + (k : Int) * 7 + 5) = ((mkb k : Nat) : Int) := by rw [IntKind.wrap_u8']; unfold mkb; omega
 go_enter Tryz.func56, Tryz.ntmps56
 go_wp2
 go_ret
 exact ⟨by rw [← e4]; congr 2, rfl⟩
theorem CopyBytes_s (v : Value) (n : Nat) (f : Nat → Nat) (w : World) (hn : n ≤ 211106232532992) (hv : Sl w v n f) :
   Calls Tryz.prog 57 #[v] w fun e w' => ∃ v', e = .returned v' ∧ Own w' w.heap.size v' n f ∧ Chg w w' [] := by
 go_enter Tryz.func57, Tryz.ntmps57
 go_wp2_with (refine append_y rfl (.tmp 4) (.tmp 5) rfl w.heap.size (.slice none 0 0) v 0 n f f rfl rfl (Own.nil _ _ f) hv (by omega) (Nat.le_refl _) ?_; intro a1 w1 O1 q1; rw [Nat.zero_add, cat_zero] at O1; replace q1 : Chg w w1 [] := q1)
 go_ret
 exact ⟨a1, rfl, O1, q1⟩
theorem SameBytes_g (g o c g' o' c' n : Nat) (f f' : Nat → Nat) (w : World) (hn : n ≤ 9223372036854775807) (hb : Bs w g o n f) (hb' : Bs w g' o' n f') (hf : ∀ i, i < n → f i = f' i) :
   Calls Tryz.prog 10 #[.slice (some ⟨g, o, none⟩) n c, .slice (some ⟨g', o', none⟩) n c'] w fun e w' => e = .returned (.bool true) ∧ ∃ m, w' = w.drewN m := by
 go_enter Tryz.func10, Tryz.ntmps10
 go_wp2_with fail
 go_loopw [5] (fun t wr => ∃ i : Nat, i ≤ n ∧ t = .int .i64 (i : Int) ∧ ∃ m, wr = w.drewN m) (fun t _ => ((n : Int) - intOf t).toNat)
 case atStart => exact ⟨0, by omega, rfl, 0, rfl⟩
 case round =>
   obtain ⟨i, hi, rfl, q, rfl⟩ := hrel
   by_cases h8 : i < n
   · have hI : (i : Int) < (n : Int) := by omega
     have c1 := hb.cell i h8
     have c2 := hb'.cell i h8
     rw [← hf i h8] at c2
     have e1 : IntKind.i64.wrap ((i : Int) + 1) = (i : Int) + 1 := by rw [IntKind.wrap_i64]; omega
     generalize f i = x at *
     go_wp2_with fail
     go_quiet (fail)
     go_wp2_with fail
     exact ⟨⟨i + 1, by omega, by go_num, _, rfl⟩, by simp [intOf]; omega⟩
   · have hI : ¬ (i : Int) < (n : Int) := by omega
     go_wp2_with fail
     go_ret
     exact ⟨rfl, q, rfl⟩
end Go.Proofs.YtgjclegpnbjlkaaGreatDoor

set_option linter.all false
namespace Go.Proofs.YtgjclegpnbjlkaaGreatDoor
set_option maxHeartbeats 8000000
set_option maxRecDepth 100000
open Go.RowKit
theorem make_yi (r : Nat) (hr : r ≤ 140737488355331) (W : World) : (Instr.makeSlice 29 (.int .i64 (r : Int)) (.int .i64 (r : Int))).run Tryz.prog W = .ok (.slice (some ⟨W.heap.size, 0, none⟩) r r) (W.alloc (.cells (yC r fun _ => 0) 5)) := by
 obtain ⟨i, hi, hz, h1, h2⟩ := u8Row
 have h := run_make (P := Tryz.prog) W 29 5 i (.int .u8 0) Tryz.underlying29 hi hz .i64 .i64 (r : Int) (r : Int) (by omega) (by omega) (by rw [h2]; omega) (by omega)
 rw [h, h1, Int.toNat_natCast, Nat.mul_one]
 show Result.ok _ (W.alloc (.cells (madeCells #[.int .u8 0] r) 5)) = _
 rw [made_y]
theorem listRow : ∃ i, Tryz.prog.info? 29 = some i ∧ i.zero = some (.slice none 0 0) ∧ i.size = 1 ∧ i.bytes = 24 := by
 have h : (Tryz.prog.info? 29).map (fun i => (i.zero, i.size, i.bytes)) = some (some (.slice none 0 0), 1, 24) := by kernel_rfl
 cases hi : Tryz.prog.info? 29 with
 | none => rw [hi] at h; simp at h
 | some i => rw [hi] at h; simp at h; exact ⟨i, rfl, h.1, h.2.1, h.2.2⟩
def gvf (f : Nat → Nat) (n : Nat) : Nat → Nat := fun j => if j < n then f j else mkb j
def gv1 (i : Nat) : Nat → Nat := fun j => if j < i then mkb j else 0
def gv2 (f : Nat → Nat) (i : Nat) : Nat → Nat := fun j => if j < i then f j else mkb j
theorem gv1_step (i : Nat) : up (gv1 i) i (mkb i) = gv1 (i + 1) := by
 funext j; unfold up gv1
 by_cases h : j = i
 · subst h; rw [if_pos rfl, if_pos (by omega)]
 · rw [if_neg h]
   by_cases h2 : j < i
   · rw [if_pos h2, if_pos (by omega)]
   · rw [if_neg h2, if_neg (by omega)]
theorem gv2_step (f : Nat → Nat) (i : Nat) : up (gv2 f i) i (f i) = gv2 f (i + 1) := by
 funext j; unfold up gv2
 by_cases h : j = i
 · subst h; rw [if_pos rfl, if_pos (by omega)]
 · rw [if_neg h]
   by_cases h2 : j < i
   · rw [if_pos h2, if_pos (by omega)]
   · rw [if_neg h2, if_neg (by omega)]
theorem gvf_lt {f : Nat → Nat} {n : Nat} (h : ∀ i, i < n → f i < 256) (j : Nat) : gvf f n j < 256 := by
 unfold gvf
 by_cases hj : j < n
 · rw [if_pos hj]; exact h j hj
 · rw [if_neg hj]; exact mkb_lt j
def One (w : World) (base : Nat) (l x : Value) : Prop := w.ownsRow base 29 1 l 1 [x]
theorem One.form {w : World} {base : Nat} {l x : Value} (h : One w base l x) : ∃ g c, l = .slice (some ⟨g, 0, none⟩) 1 c ∧ base ≤ g ∧ g < w.heap.size ∧ w.cell? ⟨g, 0, none⟩ = some x := by
 obtain ⟨_, h1⟩ := h
 rcases h1 with ⟨_, h1⟩ | ⟨g, cap, cur, rfl, hg, hh, hc, hm, hs, ht⟩
 · omega
 · refine ⟨g, cap, rfl, hg, (Array.getElem?_eq_some_iff.1 hh).1, ?_⟩
   have e := congrArg (fun l => l[0]?) ht
   rw [List.getElem?_take_of_lt (by omega), Array.getElem?_toList] at e
   simp [World.cell?, hh, e]
theorem One.chg {w w' : World} {base : Nat} {l x : Value} (h : One w base l x) {ch : List Nat} (hc : Chg w w' ch) (hb : ∀ i ∈ ch, i < base ∨ w.heap.size ≤ i) : One w' base l x := by
 obtain ⟨h0, h1⟩ := h
 refine ⟨h0, ?_⟩
 rcases h1 with h1 | ⟨g, cap, cur, rfl, hg, hh, hr⟩
 · exact Or.inl h1
 · refine Or.inr ⟨g, cap, cur, rfl, hg, ?_, hr⟩
   have hl := (Array.getElem?_eq_some_iff.1 hh).1
   rw [hc.block g hl (fun hi => by rcases hb g hi with h | h <;> omega)]
   exact hh
theorem sl_lt {w : World} {v : Value} {n : Nat} {f : Nat → Nat} (h : Sl w v n f) : ∀ i, i < n → f i < 256 := by
 rcases h with ⟨rfl, _⟩ | ⟨g, o, cap, _, _, _, hb⟩
 · intro i hi; omega
 · exact hb.bd
def GP (w w' : World) (gb n m : Nat) (f : Nat → Nat) (rest : Array Value) (r : Value) : Prop :=
 ∃ o la lb x, r = .slice (some ⟨o, 0, none⟩) n m ∧ Chg w w' [gb] ∧ w.heap.size ≤ o ∧ Blk w' o (yC m (gvf f n)) 5 ∧
     Own w' w.heap.size x m (gvf f n) ∧ One w' w.heap.size la (.slice (some ⟨o, 0, none⟩) m m) ∧ One w' w.heap.size lb x ∧ Blk w' gb (#[la, lb] ++ rest) 52
theorem GivenBytes_1 (gb n : Nat) (v : Value) (f : Nat → Nat) (rest : Array Value) (w : World) (hn : n ≤ 140737488355328) (hv : Sl w v n f) (hg : Blk w gb (#[.slice none 0 0, .slice none 0 0] ++ rest) 52) :
   Calls Tryz.prog 14 #[.pointer (some ⟨gb, 0, none⟩), v] w fun e w' => ∃ r, e = .returned r ∧ GP w w' gb n (n + 3) f rest r := by
 have hlen : ∃ p c, v = .slice p n c := by
   rcases hv with ⟨rfl, rfl⟩ | ⟨g, o, cap, rfl, _⟩
   · exact ⟨none, 0, rfl⟩
   · exact ⟨_, _, rfl⟩
 obtain ⟨vp, vc, rfl⟩ := hlen
 have hfl := sl_lt hv
 have gbl := hg.lt
 obtain ⟨m, hm⟩ : ∃ m, n + 3 = m := ⟨_, rfl⟩
 have HM : Hid (n + 3 = m) := hm
 have e1 : IntKind.i64.wrap ((n : Int) + 3) = (m : Int) := by rw [IntKind.wrap_i64]; omega
 have hmk := make_yi m (by omega)
 have B0 := Blk.new w (yC m fun _ => 0) 5
 have B1 : Blk (w.alloc (.cells (yC m fun _ => 0) 5)) w.heap.size (yC m (gv1 0)) 5 := B0.to (yC_eq fun j _ => (if_neg (by omega)).symm)
 have C1 := (Chg.refl w []).alloc (.cells (yC m fun _ => 0) 5)
 have hnm : n < m := by omega
 have hmb : m ≤ 140737488355331 := by omega
 rw [hm]
 clear hm B0 hn
 go_enter Tryz.func14, Tryz.ntmps14
 go_wp2_with fail
 clear hmk
 go_loopw [6] (fun t wr => ∃ i : Nat, i ≤ m ∧ t = .int .i64 (i : Int) ∧ Blk wr w.heap.size (yC m (gv1 i)) 5 ∧ Chg w wr []) (fun t _ => ((m : Int) - intOf t).toNat)
 case atStart => exact ⟨0, by omega, rfl, B1, C1⟩
 case round =>
   clear B1 C1
   obtain ⟨i, hi, rfl, b0, c0⟩ := hrel
   by_cases h8 : i < m
   · have hI : (i : Int) < (m : Int) := by omega
     have e2 : IntKind.i64.wrap ((i : Int) + 1) = (i : Int) + 1 := by rw [IntKind.wrap_i64]; omega
     have ck := (b0.cell i).trans (yC_get m _ i h8)
     have fk := b0.frozen i
     have b1 := (b0.setCell i (.int .u8 ((mkb i : Nat) : Int))).to (by rw [yC_set, gv1_step])
     have c1 := c0.setNew (Nat.le_refl _) i (.int .u8 ((mkb i : Nat) : Int))
     go_wp2_with fail
     refine (markBytes_s i (by omega) _).mono ?_
     rintro e v1 ⟨rfl, rfl⟩
     go_wp2_with fail
     exact ⟨⟨i + 1, by omega, by go_num, b1, c1⟩, by simp [intOf]; omega⟩
   · have h9 : i = m := by omega
     subst h9
     have hI : ¬ (i : Int) < (i : Int) := by omega
     go_wp2_with fail
     have B2 : Blk wr w.heap.size (yC i (gv2 f 0)) 5 := b0.to (yC_eq fun j hj => by unfold gv1 gv2; rw [if_pos hj, if_neg (by omega)])
     go_loopw [7] (fun t wr => ∃ k : Nat, k ≤ n ∧ t = .int .i64 (k : Int) ∧ Blk wr w.heap.size (yC i (gv2 f k)) 5 ∧ Chg w wr []) (fun t _ => ((n : Int) - intOf t).toNat)
     case atStart => exact ⟨0, by omega, rfl, B2, c0⟩
     case round =>
       clear B2 c0 b0
       obtain ⟨k, hk, rfl, b0, c0⟩ := hrel
       by_cases h8 : k < n
       · have hI1 : (k : Int) < (n : Int) := by omega
         have hI2 : (k : Int) < (i : Int) := by omega
         have e2 : IntKind.i64.wrap ((k : Int) + 1) = (k : Int) + 1 := by rw [IntKind.wrap_i64]; omega
         have ck := (b0.cell k).trans (yC_get i _ k (by omega))
         have fk := b0.frozen k
         have b1 := (b0.setCell k (.int .u8 ((f k : Nat) : Int))).to (by rw [yC_set, gv2_step])
         have c1 := c0.setNew (Nat.le_refl _) k (.int .u8 ((f k : Nat) : Int))
         have hvc := hv.chg c0 (Off.nil _)
         rcases hvc with ⟨h0, _⟩ | ⟨g, o, cap, he, _, _, hb⟩
         · omega
         · simp only [Value.slice.injEq] at he
           obtain ⟨rfl, _, rfl⟩ := he
           have cl := hb.cell k h8
           go_wp2_with fail
           exact ⟨⟨k + 1, by omega, by go_num, b1, c1⟩, by simp [intOf]; omega⟩
       · have h9 : k = n := by omega
         subst h9
         have hI1 : ¬ (k : Int) < (k : Int) := by omega
         obtain ⟨y, hy⟩ : ∃ y, w.heap.size = y := ⟨_, rfl⟩
         have HY : Hid (w.heap.size = y) := hy
         have BO : Blk wr y (yC i (gvf f k)) 5 := hy ▸ b0
         rw [hy] at gbl
         rw [hy]
         clear hy b0 hv
         have ylt := BO.lt
         have wsz := c0.size
         have hg1 := hg.chg c0 (by simp)
         have cg0 := hg1.cell 0
         rw [Array.getElem?_append_left (by simp)] at cg0
         simp at cg0
         have hi0 : 0 < i := by omega
         obtain ⟨inf, hinf, hz, hs1, hs2⟩ := listRow
         have AL := Blk.new wr #[.slice (some ⟨y, 0, none⟩) i i] 29
         have hnw : ∀ j u, ([.slice (some ⟨y, 0, none⟩) i i] : List Value)[j]? = some u → (wr.alloc (.cells #[.slice (some ⟨y, 0, none⟩) i i] 29)).cell? ((⟨wr.heap.size, 0, none⟩ : Addr).add j) = some u := by
           intro j u hj
           refine add_cell ?_
           rw [Nat.zero_add, AL.cell]
           simpa using hj
         have HNW : Hid (∀ j u, ([.slice (some ⟨y, 0, none⟩) i i] : List Value)[j]? = some u → (wr.alloc (.cells #[.slice (some ⟨y, 0, none⟩) i i] 29)).cell? ((⟨wr.heap.size, 0, none⟩ : Addr).add j) = some u) := hnw
         clear hnw AL
         go_wp2_with (refine wpList_append_own_wide _ rfl (.tmp 40) (.tmp 42) 36 rfl y 29 inf (.slice none 0 0) 1 24 Tryz.underlying36 hinf hz hs1 hs2 rfl (by omega) (.slice none 0 0) 0 [] rfl (World.ownsRow_nil _ _ _ _) ⟨wr.heap.size, 0, none⟩ 1 1 [.slice (some ⟨y, 0, none⟩) i i] rfl rfl HNW.out (by simp [Value.oneCell']) (by simp [maxLen]) (by omega) (by have := HY.out; simp; omega) ?_
                      intro la w1 O1 G1 _
                      have LA : One w1 y la (.slice (some ⟨y, 0, none⟩) i i) := O1
                      replace G1 : Chg (wr.alloc (.cells #[.slice (some ⟨y, 0, none⟩) i i] 29)) w1 [] := Chg.grown G1
                      have GB0 := (hg1.alloc (.cells #[.slice (some ⟨y, 0, none⟩) i i] 29)).chg G1 (by simp)
                      have cgb := GB0.cell 0
                      have fgb := GB0.frozen 0
                      rw [Array.getElem?_append_left (by simp)] at cgb
                      simp at cgb
                      obtain ⟨lg, lc, rfl, hlg1, hlg2, hlg3⟩ := LA.form)
         have GB := (GB0.setCell 0 (.slice (some ⟨lg, 0, none⟩) 1 lc)).to (by rw [Array.setIfInBounds_append_left (by simp)])
         simp only [List.setIfInBounds_toArray, List.set_cons_zero] at GB
         have BO1 := ((BO.alloc (.cells #[.slice (some ⟨y, 0, none⟩) i i] 29)).chg G1 (by simp)).setOther (show ¬ y = gb by omega) 0 (.slice (some ⟨lg, 0, none⟩) 1 lc)
         have LA1 := LA.chg ((Chg.refl w1 [gb]).setIn (k := gb) (by simp) 0 (.slice (some ⟨lg, 0, none⟩) 1 lc)) (by simp; omega)
         have CV := (((c0.wide (l := [gb])).alloc (.cells #[.slice (some ⟨y, 0, none⟩) i i] 29)).trans1 G1.wide).setIn (k := gb) (by simp) 0 (.slice (some ⟨lg, 0, none⟩) 1 lc)
         have ywr : y ≤ (w1.setCell ⟨gb, 0, none⟩ (.slice (some ⟨lg, 0, none⟩) 1 lc)).heap.size := Nat.le_of_lt BO1.lt
         clear cgb fgb GB0 LA O1 G1 hg1 cg0 BO c0 HNW hlg3
         generalize w1.setCell ⟨gb, 0, none⟩ (.slice (some ⟨lg, 0, none⟩) 1 lc) = V at *
         clear hlg2
         have ywr0 : y ≤ V.heap.size := ywr
         refine wp_region_held_drew (S := fun w' => Chg V w' [gb]) (by kernel_rfl) ((Chg.refl V _).drew) (fun hHeld => ?_)
         replace GB := GB.drew
         replace BO1 := BO1.drew
         replace LA1 := LA1.chg ((Chg.refl V []).drew) (by simp)
         refine tv ?_ 0 (some 46) rfl (fun w hSw => ?_) hHeld ?_; rotate_left; (· (go_simp; try with_reducible rfl)); try simp only [Act.put, sA]
         refine tv ?_ 1 (some 47) rfl (fun w hSw => ?_) hHeld ?_; rotate_left; (· (go_simp; try with_reducible rfl)); try simp only [Act.put, sA]
         refine tv ?_ 2 (some 48) rfl (fun w hSw => ?_) hHeld ?_; rotate_left; (· (go_simp; try with_reducible rfl)); try simp only [Act.put, sA]
         refine tv ?_ 3 (some 49) rfl (fun w hSw => ?_) hHeld ?_; rotate_left; (· (go_simp; try with_reducible rfl)); try simp only [Act.put, sA]
         refine tv ?_ 5 (some 51) rfl (fun w hSw => ?_) hHeld ?_; rotate_left; (· (go_simp; try with_reducible rfl)); try simp only [Act.put, sA]
         refine wpAnyH_ready (rs := [4, 6]) (by kernel_rfl) (by simp) ?_
         refine AllReadyH.cons (o := _) rfl (fun K hK => ?_) ?_
         ·
           have cg := GB.cell 1
           rw [Array.getElem?_append_left (by simp)] at cg
           simp at cg
           rw [if_pos (by rfl)]
           go_simp
           refine hK.out _ _ (hHeld) (fun hHeld => ?_)
           clear hK K
           try simp only [Act.put, sA]
           refine wpAnyH_ready (rs := [6]) (by kernel_rfl) (by simp) ?_
           refine AllReadyH.cons (o := _) rfl (fun K hK => ?_) ?_
           ·
             go_simp
             refine (CopyBytes_s (.slice (some ⟨y, 0, none⟩) i i) i (gvf f k) _ (by omega) (Or.inr ⟨y, 0, i, rfl, Nat.le_refl _, by omega, BO1.lt, fun j _ => gvf_lt hfl j, fun j hj => by rw [Nat.zero_add, BO1.cell, yC_get _ _ _ hj]⟩)).mono ?_
             rintro e v7 ⟨x, rfl, OX, k7⟩
             obtain ⟨xg, xc, rfl, hxg, hxc, hxm, XB⟩ := OX.form hi0
             go_wp2_with fail
             refine hK.out _ _ (hHeld.trans1 k7.wide) (fun hHeld => ?_)
             clear hK K
             try simp only [Act.put, sA]
             have v7sz := k7.size
             replace GB := GB.chg k7 (by simp)
             replace BO1 := BO1.chg k7 (by simp)
             replace LA1 := LA1.chg k7 (by simp)
             replace ywr : y ≤ v7.heap.size := Nat.le_trans ywr k7.size
             clear k7
             refine wpAnyH_ready (rs := [7]) (by kernel_rfl) (by simp) ?_
             refine AllReadyH.cons (o := _) rfl (fun K hK => ?_) ?_
             ·
               rw [if_pos (by rfl)]
               go_simp
               refine hK.out _ _ (hHeld.alloc _) (fun hHeld => ?_)
               clear hK K
               try simp only [Act.put, sA]
               have AL := Blk.new v7 #[.slice (some ⟨xg, 0, none⟩) i xc] 29
               replace GB := GB.alloc (.cells #[.slice (some ⟨xg, 0, none⟩) i xc] 29)
               replace BO1 := BO1.alloc (.cells #[.slice (some ⟨xg, 0, none⟩) i xc] 29)
               replace LA1 := LA1.chg ((Chg.refl v7 []).alloc (.cells #[.slice (some ⟨xg, 0, none⟩) i xc] 29)) (by simp)
               replace OX := OX.chg ((Chg.refl v7 []).alloc (.cells #[.slice (some ⟨xg, 0, none⟩) i xc] 29)) (by simp)
               refine wpAnyH_ready (rs := [8]) (by kernel_rfl) (by simp) ?_
               refine AllReadyH.cons (o := _) rfl (fun K hK => ?_) ?_
               ·
                 rw [if_pos (by rfl)]
                 refine wp_append_own_wide _ (.tmp 50) (.tmp 53) 36 rfl y 29 inf (.slice none 0 0) 1 24 Tryz.underlying36 hinf hz hs1 hs2 rfl (by omega) (.slice none 0 0) 0 [] rfl (World.ownsRow_nil _ _ _ _) ⟨v7.heap.size, 0, none⟩ 1 1 [.slice (some ⟨xg, 0, none⟩) i xc] rfl rfl (fun j u hj => add_cell (by rw [Nat.zero_add, AL.cell]; simpa using hj)) (by simp [Value.oneCell']) (by simp [maxLen]) (by omega) (by simp; omega) ?_
                 intro lb w8 O8 G8 _
                 have LB : One w8 y lb (.slice (some ⟨xg, 0, none⟩) i xc) := O8
                 replace G8 : Chg (v7.alloc (.cells #[.slice (some ⟨xg, 0, none⟩) i xc] 29)) w8 [] := Chg.grown G8
                 obtain ⟨mg, mc, rfl, hmg1, hmg2, hmg3⟩ := LB.form
                 refine hK.out _ _ (hHeld.trans1 G8.wide) (fun hHeld => ?_)
                 clear hK K
                 try simp only [Act.put, sA]
                 replace GB := GB.chg G8 (by simp)
                 replace BO1 := BO1.chg G8 (by simp)
                 replace LA1 := LA1.chg G8 (by simp)
                 replace OX := OX.chg G8 (by simp)
                 clear G8 O8 AL
                 refine tv ?_ 9 (some 55) rfl (fun w hSw => ?_) hHeld ?_; rotate_left; (· (go_simp; try with_reducible rfl)); try simp only [Act.put, sA]
                 refine tv ?_ 10 (some 56) rfl (fun w hSw => ?_) hHeld ?_; rotate_left; (· (go_simp; try with_reducible rfl)); try simp only [Act.put, sA]
                 refine wpAnyH_ready (rs := [11]) (by kernel_rfl) (by simp) ?_
                 refine AllReadyH.cons (o := _) rfl (fun K hK => ?_) ?_
                 ·
                   have cg := GB.cell 1
                   have fg := GB.frozen 1
                   rw [Array.getElem?_append_left (by simp)] at cg
                   simp at cg
                   rw [if_pos (by rfl)]
                   go_simp
                   refine hK.out _ _ (hHeld.setIn (by simp) _ _) (fun hHeld => ?_)
                   clear hK K
                   try simp only [Act.put, sA]
                   refine wpAnyH_done (by kernel_rfl) ?_ _
                   have GB2 := (GB.setCell 1 (.slice (some ⟨mg, 0, none⟩) 1 mc)).to (by rw [Array.setIfInBounds_append_left (by simp)])
                   simp only [sA] at GB2
                   have SC := (Chg.refl w8 [gb]).setIn (k := gb) (by simp) 1 (.slice (some ⟨mg, 0, none⟩) 1 mc)
                   have BO2 := BO1.chg SC (by simp; omega)
                   have LA2 := LA1.chg SC (by simp; omega)
                   have LB2 := LB.chg SC (by simp; omega)
                   have hxg2 : V.heap.size ≤ xg := hxg
                   have OX2 := (OX.chg SC (by simp [ob, Value.ownBlock]; omega)).base (base' := y) ywr0
                   have C9 := CV.trans1 hHeld
                   clear hHeld SC
                   have hki : (k : Int) ≤ (i : Int) := by omega
                   go_wp2_with fail
                   go_ret
                   have hY := HY.out
                   subst hY
                   exact ⟨_, rfl, w.heap.size, _, _, _, rfl, C9, Nat.le_refl _, BO2, OX2, LA2, LB2, GB2⟩
                 exact AllReadyH.nil
               exact AllReadyH.nil
             exact AllReadyH.nil
           exact AllReadyH.nil
         refine AllReadyH.cons (o := _) rfl (fun K hK => ?_) ?_
         ·
           go_simp
           refine (CopyBytes_s (.slice (some ⟨y, 0, none⟩) i i) i (gvf f k) _ (by omega) (Or.inr ⟨y, 0, i, rfl, Nat.le_refl _, by omega, BO1.lt, fun j _ => gvf_lt hfl j, fun j hj => by rw [Nat.zero_add, BO1.cell, yC_get _ _ _ hj]⟩)).mono ?_
           rintro e v7 ⟨x, rfl, OX, k7⟩
           obtain ⟨xg, xc, rfl, hxg, hxc, hxm, XB⟩ := OX.form hi0
           go_wp2_with fail
           refine hK.out _ _ (hHeld.trans1 k7.wide) (fun hHeld => ?_)
           clear hK K
           try simp only [Act.put, sA]
           have v7sz := k7.size
           replace GB := GB.chg k7 (by simp)
           replace BO1 := BO1.chg k7 (by simp)
           replace LA1 := LA1.chg k7 (by simp)
           replace ywr : y ≤ v7.heap.size := Nat.le_trans ywr k7.size
           clear k7
           refine wpAnyH_ready (rs := [4, 7]) (by kernel_rfl) (by simp) ?_
           refine AllReadyH.cons (o := _) rfl (fun K hK => ?_) ?_
           ·
             have cg := GB.cell 1
             rw [Array.getElem?_append_left (by simp)] at cg
             simp at cg
             rw [if_pos (by rfl)]
             go_simp
             refine hK.out _ _ (hHeld) (fun hHeld => ?_)
             clear hK K
             try simp only [Act.put, sA]
             refine wpAnyH_ready (rs := [7]) (by kernel_rfl) (by simp) ?_
             refine AllReadyH.cons (o := _) rfl (fun K hK => ?_) ?_
             ·
               rw [if_pos (by rfl)]
               go_simp
               refine hK.out _ _ (hHeld.alloc _) (fun hHeld => ?_)
               clear hK K
               try simp only [Act.put, sA]
               have AL := Blk.new v7 #[.slice (some ⟨xg, 0, none⟩) i xc] 29
               replace GB := GB.alloc (.cells #[.slice (some ⟨xg, 0, none⟩) i xc] 29)
               replace BO1 := BO1.alloc (.cells #[.slice (some ⟨xg, 0, none⟩) i xc] 29)
               replace LA1 := LA1.chg ((Chg.refl v7 []).alloc (.cells #[.slice (some ⟨xg, 0, none⟩) i xc] 29)) (by simp)
               replace OX := OX.chg ((Chg.refl v7 []).alloc (.cells #[.slice (some ⟨xg, 0, none⟩) i xc] 29)) (by simp)
               refine wpAnyH_ready (rs := [8]) (by kernel_rfl) (by simp) ?_
               refine AllReadyH.cons (o := _) rfl (fun K hK => ?_) ?_
               ·
                 rw [if_pos (by rfl)]
                 refine wp_append_own_wide _ (.tmp 50) (.tmp 53) 36 rfl y 29 inf (.slice none 0 0) 1 24 Tryz.underlying36 hinf hz hs1 hs2 rfl (by omega) (.slice none 0 0) 0 [] rfl (World.ownsRow_nil _ _ _ _) ⟨v7.heap.size, 0, none⟩ 1 1 [.slice (some ⟨xg, 0, none⟩) i xc] rfl rfl (fun j u hj => add_cell (by rw [Nat.zero_add, AL.cell]; simpa using hj)) (by simp [Value.oneCell']) (by simp [maxLen]) (by omega) (by simp; omega) ?_
                 intro lb w8 O8 G8 _
                 have LB : One w8 y lb (.slice (some ⟨xg, 0, none⟩) i xc) := O8
                 replace G8 : Chg (v7.alloc (.cells #[.slice (some ⟨xg, 0, none⟩) i xc] 29)) w8 [] := Chg.grown G8
                 obtain ⟨mg, mc, rfl, hmg1, hmg2, hmg3⟩ := LB.form
                 refine hK.out _ _ (hHeld.trans1 G8.wide) (fun hHeld => ?_)
                 clear hK K
                 try simp only [Act.put, sA]
                 replace GB := GB.chg G8 (by simp)
                 replace BO1 := BO1.chg G8 (by simp)
                 replace LA1 := LA1.chg G8 (by simp)
                 replace OX := OX.chg G8 (by simp)
                 clear G8 O8 AL
                 refine tv ?_ 9 (some 55) rfl (fun w hSw => ?_) hHeld ?_; rotate_left; (· (go_simp; try with_reducible rfl)); try simp only [Act.put, sA]
                 refine tv ?_ 10 (some 56) rfl (fun w hSw => ?_) hHeld ?_; rotate_left; (· (go_simp; try with_reducible rfl)); try simp only [Act.put, sA]
                 refine wpAnyH_ready (rs := [11]) (by kernel_rfl) (by simp) ?_
                 refine AllReadyH.cons (o := _) rfl (fun K hK => ?_) ?_
                 ·
                   have cg := GB.cell 1
                   have fg := GB.frozen 1
                   rw [Array.getElem?_append_left (by simp)] at cg
                   simp at cg
                   rw [if_pos (by rfl)]
                   go_simp
                   refine hK.out _ _ (hHeld.setIn (by simp) _ _) (fun hHeld => ?_)
                   clear hK K
                   try simp only [Act.put, sA]
                   refine wpAnyH_done (by kernel_rfl) ?_ _
                   have GB2 := (GB.setCell 1 (.slice (some ⟨mg, 0, none⟩) 1 mc)).to (by rw [Array.setIfInBounds_append_left (by simp)])
                   simp only [sA] at GB2
                   have SC := (Chg.refl w8 [gb]).setIn (k := gb) (by simp) 1 (.slice (some ⟨mg, 0, none⟩) 1 mc)
                   have BO2 := BO1.chg SC (by simp; omega)
                   have LA2 := LA1.chg SC (by simp; omega)
                   have LB2 := LB.chg SC (by simp; omega)
                   have hxg2 : V.heap.size ≤ xg := hxg
                   have OX2 := (OX.chg SC (by simp [ob, Value.ownBlock]; omega)).base (base' := y) ywr0
                   have C9 := CV.trans1 hHeld
                   clear hHeld SC
                   have hki : (k : Int) ≤ (i : Int) := by omega
                   go_wp2_with fail
                   go_ret
                   have hY := HY.out
                   subst hY
                   exact ⟨_, rfl, w.heap.size, _, _, _, rfl, C9, Nat.le_refl _, BO2, OX2, LA2, LB2, GB2⟩
                 exact AllReadyH.nil
               exact AllReadyH.nil
             exact AllReadyH.nil
           refine AllReadyH.cons (o := _) rfl (fun K hK => ?_) ?_
           ·
             rw [if_pos (by rfl)]
             go_simp
             refine hK.out _ _ (hHeld.alloc _) (fun hHeld => ?_)
             clear hK K
             try simp only [Act.put, sA]
             have AL := Blk.new v7 #[.slice (some ⟨xg, 0, none⟩) i xc] 29
             replace GB := GB.alloc (.cells #[.slice (some ⟨xg, 0, none⟩) i xc] 29)
             replace BO1 := BO1.alloc (.cells #[.slice (some ⟨xg, 0, none⟩) i xc] 29)
             replace LA1 := LA1.chg ((Chg.refl v7 []).alloc (.cells #[.slice (some ⟨xg, 0, none⟩) i xc] 29)) (by simp)
             replace OX := OX.chg ((Chg.refl v7 []).alloc (.cells #[.slice (some ⟨xg, 0, none⟩) i xc] 29)) (by simp)
             refine wpAnyH_ready (rs := [4]) (by kernel_rfl) (by simp) ?_
             refine AllReadyH.cons (o := _) rfl (fun K hK => ?_) ?_
             ·
               have cg := GB.cell 1
               rw [Array.getElem?_append_left (by simp)] at cg
               simp at cg
               rw [if_pos (by rfl)]
               go_simp
               refine hK.out _ _ (hHeld) (fun hHeld => ?_)
               clear hK K
               try simp only [Act.put, sA]
               refine wpAnyH_ready (rs := [8]) (by kernel_rfl) (by simp) ?_
               refine AllReadyH.cons (o := _) rfl (fun K hK => ?_) ?_
               ·
                 rw [if_pos (by rfl)]
                 refine wp_append_own_wide _ (.tmp 50) (.tmp 53) 36 rfl y 29 inf (.slice none 0 0) 1 24 Tryz.underlying36 hinf hz hs1 hs2 rfl (by omega) (.slice none 0 0) 0 [] rfl (World.ownsRow_nil _ _ _ _) ⟨v7.heap.size, 0, none⟩ 1 1 [.slice (some ⟨xg, 0, none⟩) i xc] rfl rfl (fun j u hj => add_cell (by rw [Nat.zero_add, AL.cell]; simpa using hj)) (by simp [Value.oneCell']) (by simp [maxLen]) (by omega) (by simp; omega) ?_
                 intro lb w8 O8 G8 _
                 have LB : One w8 y lb (.slice (some ⟨xg, 0, none⟩) i xc) := O8
                 replace G8 : Chg (v7.alloc (.cells #[.slice (some ⟨xg, 0, none⟩) i xc] 29)) w8 [] := Chg.grown G8
                 obtain ⟨mg, mc, rfl, hmg1, hmg2, hmg3⟩ := LB.form
                 refine hK.out _ _ (hHeld.trans1 G8.wide) (fun hHeld => ?_)
                 clear hK K
                 try simp only [Act.put, sA]
                 replace GB := GB.chg G8 (by simp)
                 replace BO1 := BO1.chg G8 (by simp)
                 replace LA1 := LA1.chg G8 (by simp)
                 replace OX := OX.chg G8 (by simp)
                 clear G8 O8 AL
                 refine tv ?_ 9 (some 55) rfl (fun w hSw => ?_) hHeld ?_; rotate_left; (· (go_simp; try with_reducible rfl)); try simp only [Act.put, sA]
                 refine tv ?_ 10 (some 56) rfl (fun w hSw => ?_) hHeld ?_; rotate_left; (· (go_simp; try with_reducible rfl)); try simp only [Act.put, sA]
                 refine wpAnyH_ready (rs := [11]) (by kernel_rfl) (by simp) ?_
                 refine AllReadyH.cons (o := _) rfl (fun K hK => ?_) ?_
                 ·
                   have cg := GB.cell 1
                   have fg := GB.frozen 1
                   rw [Array.getElem?_append_left (by simp)] at cg
                   simp at cg
                   rw [if_pos (by rfl)]
                   go_simp
                   refine hK.out _ _ (hHeld.setIn (by simp) _ _) (fun hHeld => ?_)
                   clear hK K
                   try simp only [Act.put, sA]
                   refine wpAnyH_done (by kernel_rfl) ?_ _
                   have GB2 := (GB.setCell 1 (.slice (some ⟨mg, 0, none⟩) 1 mc)).to (by rw [Array.setIfInBounds_append_left (by simp)])
                   simp only [sA] at GB2
                   have SC := (Chg.refl w8 [gb]).setIn (k := gb) (by simp) 1 (.slice (some ⟨mg, 0, none⟩) 1 mc)
                   have BO2 := BO1.chg SC (by simp; omega)
                   have LA2 := LA1.chg SC (by simp; omega)
                   have LB2 := LB.chg SC (by simp; omega)
                   have hxg2 : V.heap.size ≤ xg := hxg
                   have OX2 := (OX.chg SC (by simp [ob, Value.ownBlock]; omega)).base (base' := y) ywr0
                   have C9 := CV.trans1 hHeld
                   clear hHeld SC
                   have hki : (k : Int) ≤ (i : Int) := by omega
                   go_wp2_with fail
                   go_ret
                   have hY := HY.out
                   subst hY
                   exact ⟨_, rfl, w.heap.size, _, _, _, rfl, C9, Nat.le_refl _, BO2, OX2, LA2, LB2, GB2⟩
                 exact AllReadyH.nil
               exact AllReadyH.nil
             exact AllReadyH.nil
           exact AllReadyH.nil
         exact AllReadyH.nil
end Go.Proofs.YtgjclegpnbjlkaaGreatDoor
