/- Joined: W5, W6. -/
import Derived.Test.YtgjclegpnbjlkaaGreatDoorMwT
set_option linter.all false
namespace Go.Proofs.YtgjclegpnbjlkaaGreatDoor
set_option maxHeartbeats 4000000
set_option maxRecDepth 100000
open Go.RowKit
structure Ms where
 kind : Int
 ses : Nat → Nat
 fr : Int
 to : Int
 id : Int
 hid : Nat → Nat
 bnd : Nat → Nat
 list : Value
 text : Value
 bind : Nat → Nat
 share : Nat → Nat
 sig : Nat → Nat
 code : Int
def msL (m : Ms) : List Value := .int .i64 m.kind :: (yL 32 m.ses ++ (.int .i64 m.fr :: .int .i64 m.to :: ((.int .i64 m.id :: (yL 32 m.hid ++ yL 32 m.bnd)) ++ (m.list :: m.text :: (yL 32 m.bind ++ (yL 32 m.share ++ (yL 64 m.sig ++ [.int .i64 m.code])))))))
def msC (m : Ms) : Array Value := (msL m).toArray
theorem msL_len (m : Ms) : (msL m).length = 231 := by simp [msL, yL]
theorem msC_size (m : Ms) : (msC m).size = 231 := by simp [msC, msL_len]
theorem getAt {l r : List Value} {k n i : Nat} {v : Value} (hl : l.length = k) (h : n = k + i) (hr : r[i]? = some v) : (l ++ r)[n]? = some v := by
 rw [h, List.getElem?_append_right (by omega), hl, Nat.add_sub_cancel_left]; exact hr
theorem ms_at {w : World} {g : Nat} {m : Ms} {T : TypeId} (B : Blk w g (msC m) T) (k : Nat) (v : Value) (h : (msL m)[k]? = some v) : w.cell? ⟨g, k, none⟩ = some v := by
 rw [B.cell]; unfold msC; rw [List.getElem?_toArray]; exact h
theorem ms_kind (m : Ms) : (msL m)[0]? = some (.int .i64 m.kind) := rfl
theorem ms_fr (m : Ms) : (msL m)[33]? = some (.int .i64 m.fr) := by
 show (yL 32 m.ses ++ _)[32]? = _
 exact getAt (i := 0) (yL_len _ _) rfl rfl
theorem ms_to (m : Ms) : (msL m)[34]? = some (.int .i64 m.to) := by
 show (yL 32 m.ses ++ _)[33]? = _
 exact getAt (i := 1) (yL_len _ _) rfl rfl
theorem ms_tail (m : Ms) (i : Nat) (v : Value) (h : (m.list :: m.text :: (yL 32 m.bind ++ (yL 32 m.share ++ (yL 64 m.sig ++ [.int .i64 m.code]))))[i]? = some v) : (msL m)[100 + i]? = some v := by
 show (Value.int .i64 m.kind :: (yL 32 m.ses ++ _))[100 + i]? = _
 rw [show 100 + i = (99 + i) + 1 by omega, List.getElem?_cons_succ]
 refine getAt (i := 67 + i) (yL_len _ _) (by omega) ?_
 rw [show 67 + i = (65 + i) + 1 + 1 by omega, List.getElem?_cons_succ, List.getElem?_cons_succ]
 exact getAt (by simp [yL]) rfl h
theorem ms_list (m : Ms) : (msL m)[100]? = some m.list := ms_tail m 0 _ rfl
theorem ms_text (m : Ms) : (msL m)[101]? = some m.text := ms_tail m 1 _ rfl
theorem ms_code (m : Ms) : (msL m)[230]? = some (.int .i64 m.code) := ms_tail m 130 _ (by
 rw [show 130 = 128 + 1 + 1 by rfl, List.getElem?_cons_succ, List.getElem?_cons_succ]
 exact getAt (i := 96) (yL_len _ _) rfl (getAt (i := 64) (yL_len _ _) rfl (getAt (i := 0) (yL_len _ _) rfl rfl)))
theorem ms_ses {w : World} {g : Nat} {m : Ms} {T : TypeId} (B : Blk w g (msC m) T) (h : ∀ i, i < 32 → m.ses i < 256) : Bs w g 1 32 m.ses := ⟨B.lt, h, fun i hi => ms_at B _ _ (by
 show (Value.int .i64 m.kind :: (yL 32 m.ses ++ _))[1 + i]? = _
 rw [Nat.add_comm 1 i, List.getElem?_cons_succ, List.getElem?_append_left (by rw [yL_len]; exact hi), yL_get _ _ _ hi])⟩
theorem ms_bind {w : World} {g : Nat} {m : Ms} {T : TypeId} (B : Blk w g (msC m) T) (h : ∀ i, i < 32 → m.bind i < 256) : Bs w g 102 32 m.bind := ⟨B.lt, h, fun i hi => ms_at B _ _ (by
 rw [show 102 + i = 100 + (i + 1 + 1) by omega]
 refine ms_tail m _ _ ?_
 rw [List.getElem?_cons_succ, List.getElem?_cons_succ, List.getElem?_append_left (by rw [yL_len]; exact hi), yL_get _ _ _ hi])⟩
theorem ms_share {w : World} {g : Nat} {m : Ms} {T : TypeId} (B : Blk w g (msC m) T) (h : ∀ i, i < 32 → m.share i < 256) : Bs w g 134 32 m.share := ⟨B.lt, h, fun i hi => ms_at B _ _ (by
 rw [show 134 + i = 100 + (32 + i + 1 + 1) by omega]
 refine ms_tail m _ _ ?_
 rw [List.getElem?_cons_succ, List.getElem?_cons_succ]
 refine getAt (yL_len _ _) rfl ?_
 rw [List.getElem?_append_left (by rw [yL_len]; exact hi), yL_get _ _ _ hi])⟩
theorem ms_sig {w : World} {g : Nat} {m : Ms} {T : TypeId} (B : Blk w g (msC m) T) (h : ∀ i, i < 64 → m.sig i < 256) : Bs w g 166 64 m.sig := ⟨B.lt, h, fun i hi => ms_at B _ _ (by
 rw [show 166 + i = 100 + (32 + (32 + i) + 1 + 1) by omega]
 refine ms_tail m _ _ ?_
 rw [List.getElem?_cons_succ, List.getElem?_cons_succ]
 refine getAt (yL_len _ _) rfl (getAt (yL_len _ _) rfl ?_)
 rw [List.getElem?_append_left (by rw [yL_len]; exact hi), yL_get _ _ _ hi])⟩
theorem ms_pair {w : World} {g : Nat} {m : Ms} {T : TypeId} (B : Blk w g (msC m) T) : w.rangeAt g 35 (.int .i64 m.id :: (yL 32 m.hid ++ yL 32 m.bnd)) := fun j v hv => by
 have hj : j < 65 := by have := (List.getElem?_eq_some_iff.1 hv).1; simpa [yL] using this
 refine ms_at B _ _ ?_
 show (Value.int .i64 m.kind :: (yL 32 m.ses ++ _))[35 + j]? = _
 rw [show 35 + j = (34 + j) + 1 by omega, List.getElem?_cons_succ]
 refine getAt (i := 2 + j) (yL_len _ _) (by omega) ?_
 rw [show 2 + j = j + 1 + 1 by omega, List.getElem?_cons_succ, List.getElem?_cons_succ, List.getElem?_append_left (by simp [yL]; omega)]
 exact hv
def Ft (w : World) (base : Nat) (v : Value) (s : ByteArray) (at' why : Int) : Prop := ∃ g, v = .iface 106 (.pointer (some ⟨g, 0, none⟩)) ∧ base ≤ g ∧ Blk w g #[.string s, .int .i64 at', .int .i64 why] 109
theorem Ft.chg {w w' : World} {base : Nat} {v : Value} {s : ByteArray} {a y : Int} (h : Ft w base v s a y) (hc : Chg w w' []) : Ft w' base v s a y := by
 obtain ⟨g, h1, h2, h3⟩ := h
 exact ⟨g, h1, h2, h3.chg hc (by simp)⟩
def sPair : ByteArray := ⟨#[112, 97, 105, 114]⟩
def sCode : ByteArray := ⟨#[99, 111, 100, 101]⟩
def Ck (P : Prop) (base : Nat) (s : ByteArray) (a y : Int) (w' : World) (v : Value) : Prop := (P ∧ v = .nilIface) ∨ (¬ P ∧ Ft w' base v s a y)
def okID (d : Int) : Prop := 1 ≤ d ∧ d ≤ 255
def okCode (c : Int) : Prop := 1 ≤ c ∧ c ≤ 65535
theorem checkPair_s (d : Int) (h b : Nat → Nat) (w : World) : Calls Tryz.prog 73 #[.agg (cmC d h b)] w fun e w' => ∃ v, e = .returned v ∧ Ck (okID d) w.heap.size sPair 0 4 w' v ∧ Chg w w' [] := by
 have q := isSigner_s d
 by_cases hd : 1 ≤ d ∧ d ≤ 255
 · rw [decide_eq_true hd] at q
   have HD : Hid (okID d) := hd
   clear hd
   go_enter Tryz.func73, Tryz.ntmps73
   go_wp2_with (refine box_w rfl 27 _ rfl (cmC d h b) rfl ?_; intro g w1 hg B k1; have c0 := cm_id B)
   refine (q _).mono ?_
   rintro e w2 ⟨rfl, rfl⟩
   go_wp2_with fail
   go_ret
   exact ⟨_, rfl, Or.inl ⟨HD.out, rfl⟩, k1⟩
 · rw [decide_eq_false hd] at q
   have HD : Hid (¬ okID d) := hd
   clear hd
   go_enter Tryz.func73, Tryz.ntmps73
   go_wp2_with (refine box_w rfl 27 _ rfl (cmC d h b) rfl ?_; intro g w1 hg B k1; have c0 := cm_id B)
   refine (q _).mono ?_
   rintro e w2 ⟨rfl, rfl⟩
   go_wp2_with fail
   go_ret
   exact ⟨_, rfl, Or.inr ⟨HD.out, _, rfl, by have := k1.size; omega, Blk.new _ _ _⟩, k1.alloc _⟩
theorem checkCode_s (c : Int) (w : World) : Calls Tryz.prog 75 #[.int .i64 c] w fun e w' => ∃ v, e = .returned v ∧ Ck (okCode c) w.heap.size sCode 0 1 w' v ∧ Chg w w' [] := by
 by_cases h1 : c < 1
 · have HD : Hid (¬ okCode c) := fun x => by have := x.1; omega
   go_enter Tryz.func75, Tryz.ntmps75
   go_wp2_with fail
   go_ret
   exact ⟨_, rfl, Or.inr ⟨HD.out, _, rfl, Nat.le_refl _, Blk.new _ _ _⟩, (Chg.refl _ _).alloc _⟩
 · by_cases h2 : 65535 < c
   · have HD : Hid (¬ okCode c) := fun x => by have := x.2; omega
     go_enter Tryz.func75, Tryz.ntmps75
     go_wp2_with fail
     go_ret
     exact ⟨_, rfl, Or.inr ⟨HD.out, _, rfl, Nat.le_refl _, Blk.new _ _ _⟩, (Chg.refl _ _).alloc _⟩
   · have HD : Hid (okCode c) := ⟨by omega, by omega⟩
     go_enter Tryz.func75, Tryz.ntmps75
     go_wp2_with fail
     go_ret
     exact ⟨_, rfl, Or.inl ⟨HD.out, rfl⟩, Chg.refl _ _⟩
end Go.Proofs.YtgjclegpnbjlkaaGreatDoor

set_option linter.all false
namespace Go.Proofs.YtgjclegpnbjlkaaGreatDoor
set_option maxHeartbeats 8000000
set_option maxRecDepth 100000
open Go.RowKit
def sList : ByteArray := ⟨#[108, 105, 115, 116]⟩
def sText : ByteArray := ⟨#[116, 101, 120, 116]⟩
def cF (d : Nat → Int) (h b : Nat → Nat → Nat) : Nat → List Value := fun j => .int .i64 (d j) :: (yL 32 (h j) ++ yL 32 (b j))
theorem cF_ok (N : Nat) (d : Nat → Int) (h b : Nat → Nat → Nat) : Rok 65 N (cF d h b) := fun j _ => ⟨by simp [cF, yL], fun v hv => by
 simp only [cF, List.mem_cons, List.mem_append] at hv
 rcases hv with rfl | hv | hv
 · rfl
 · exact yL_one 32 (h j) v hv
 · exact yL_one 32 (b j) v hv⟩
def Cl (w : World) (v : Value) (N : Nat) (d : Nat → Int) (h b : Nat → Nat → Nat) : Prop := Rl w 65 v N (cF d h b) ∧ ∀ j, j < N → ∀ i, i < 32 → h j i < 256 ∧ b j i < 256
theorem Cl.chg {w w' : World} {v : Value} {N : Nat} {d : Nat → Int} {h b : Nat → Nat → Nat} (H : Cl w v N d h b) (hc : Chg w w' []) : Cl w' v N d h b := ⟨H.1.chg hc (fun _ _ _ _ _ hg => by simp at hg), H.2⟩
def zN : Nat → Nat := fun _ => 0
theorem zeroCm : (Tryz.prog.info? 27).bind (·.zero) = some (.agg (cmC 0 zN zN)) := by kernel_rfl
theorem cmInfo : (Tryz.prog.info? 27).map (·.size) = some 65 := by kernel_rfl
theorem cmC_one (d : Int) (h b : Nat → Nat) : (cmC d h b).all (·.oneCell') = true := all_oneCell_toArray (cF_ok 1 (fun _ => d) (fun _ => h) (fun _ => b) 0 (by omega)).2
def PkP (N : Nat) (d : Nat → Int) (M base : Nat) (w' : World) (v : Value) : Prop :=
 (255 < N ∧ Ft w' base v sList 0 8) ∨ (N ≤ 255 ∧ ∃ j : Nat, j < N ∧ ¬ okID (d j) ∧ (∀ i, i < j → okID (d i)) ∧ Ft w' base v sList (j : Int) 4) ∨
 (N ≤ 255 ∧ (∀ j, j < N → okID (d j)) ∧ ((1048575 < M ∧ Ft w' base v sText 0 10) ∨ (M ≤ 1048575 ∧ v = .nilIface)))
theorem checkPackage_s (v : Value) (N : Nat) (d : Nat → Int) (h b : Nat → Nat → Nat) (p : Option Addr) (M c : Nat) (w : World) (hL : Cl w v N d h b) :
   Calls Tryz.prog 74 #[v, .slice p M c] w fun e w' => ∃ r, e = .returned r ∧ PkP N d M w.heap.size w' r ∧ Chg w w' [] := by
 obtain ⟨pv, cv, rfl, hp⟩ := hL.1.form
 have HP : Hid (∀ i, i < N → ∃ g o, pv = some ⟨g, o, none⟩ ∧ g < w.heap.size ∧ w.rangeAt g (o + i * 65) (cF d h b i)) := hp
 clear hL hp
 by_cases hN : 255 < N
 · have hi : (255 : Int) < (N : Int) := by omega
   have HH : Hid (255 < N) := hN
   clear hN
   go_enter Tryz.func74, Tryz.ntmps74
   go_wp2_with fail
   go_ret
   exact ⟨_, rfl, Or.inl ⟨HH.out, _, rfl, Nat.le_refl _, Blk.new _ _ _⟩, (Chg.refl _ _).alloc _⟩
 · have hi : ¬ (255 : Int) < (N : Int) := by omega
   have HH : Hid (N ≤ 255) := by show N ≤ 255; omega
   clear hN
   go_enter Tryz.func74, Tryz.ntmps74
   go_wp2_with fail
   --CUT0
   go_loopw [15] (fun t wr => ∃ i : Nat, i ≤ N ∧ t = .int .i64 (i : Int) ∧ (∀ j, j < i → okID (d j)) ∧ Chg w wr []) (fun t _ => ((N : Int) - intOf t).toNat)
   case atStart => exact ⟨0, by omega, rfl, fun j hj => by omega, Chg.refl _ _⟩
   case round =>
     obtain ⟨i, hiN, rfl, hok, C⟩ := hrel
     have HO : Hid (∀ j, j < i → okID (d j)) := hok
     clear hok
     by_cases h8 : i = N
     · subst h8
       have hI : ¬ (i : Int) < (i : Int) := by omega
       by_cases hM : 1048575 < M
       · have hm : (1048575 : Int) < (M : Int) := by omega
         have HM : Hid (1048575 < M) := hM
         clear hM
         go_wp2_with fail
         go_ret
         exact ⟨_, rfl, Or.inr (Or.inr ⟨HH.out, HO.out, Or.inl ⟨HM.out, _, rfl, C.size, Blk.new _ _ _⟩⟩), C.alloc _⟩
       · have hm : ¬ (1048575 : Int) < (M : Int) := by omega
         have HM : Hid (M ≤ 1048575) := by show M ≤ 1048575; omega
         clear hM
         go_wp2_with fail
         go_ret
         exact ⟨_, rfl, Or.inr (Or.inr ⟨HH.out, HO.out, Or.inr ⟨HM.out, rfl⟩⟩), C⟩
     · have hlt : i < N := by omega
       have hI : (i : Int) < (N : Int) := by omega
       have hi0 : (0 : Int) ≤ (i : Int) := by omega
       have ew : IntKind.i64.wrap ((i : Int) + 1) = (i : Int) + 1 := by have := HH.out; rw [IntKind.wrap_i64]; omega
       have HI : Hid (i < N) := hlt
       have HM : Hid (((N : Int) - intOf (.int .i64 ((i : Int) + 1))).toNat < ((N : Int) - intOf (.int .i64 (i : Int))).toNat) := by show ((N : Int) - intOf (.int .i64 ((i : Int) + 1))).toNat < ((N : Int) - intOf (.int .i64 (i : Int))).toNat; simp [intOf] <;> omega
       obtain ⟨g, o, rfl, hg, hr⟩ := HP.out i hlt
       have hr2 := rangeAt_chg hr hg C (by simp)
       have q := isSigner_s (d i)
       clear h8 hlt hiN hr
       by_cases hd : 1 ≤ d i ∧ d i ≤ 255
       · rw [decide_eq_true hd] at q
         have HD : Hid (okID (d i)) := hd
         clear hd
         go_wp2_with (first
           | (refine wpList_load_mid rfl 27 _ rfl g (o + i * 65) rfl (cF d h b i) _ hr2 Tryz.underlying27 rfl (by rw [(cF_ok (i + 1) d h b i (by omega)).1]; exact cmInfo) ?_)
           | (with_reducible refine alloc_w rfl 27 rfl (.agg (cmC 0 zN zN)) zeroCm (cmC 0 zN zN) rfl ?_; intro x w1 hx B k1)
           | (refine store_w B rfl 27 _ _ (cmC (d i) (h i) (b i)) rfl rfl rfl (by rw [cmC_size]; exact cmInfo) (by rw [cmC_size, cmC_size]) (cmC_one _ _ _) ?_; intro w2 B2 k2; have c0 := cm_id B2))
         --CUT1
         refine (q _).mono ?_
         rintro e w3 ⟨rfl, rfl⟩
         go_wp2_with fail
         refine ⟨⟨i + 1, HI.out, by go_num, fun j hj => ?_, (C.trans1 k1).new k2 (by have := C.size; omega)⟩, HM.out⟩
         by_cases hji : j = i
         · rw [hji]; exact HD.out
         · exact HO.out j (by omega)
       · rw [decide_eq_false hd] at q
         have HD : Hid (¬ okID (d i)) := hd
         clear hd
         go_wp2_with (first
           | (refine wpList_load_mid rfl 27 _ rfl g (o + i * 65) rfl (cF d h b i) _ hr2 Tryz.underlying27 rfl (by rw [(cF_ok (i + 1) d h b i (by omega)).1]; exact cmInfo) ?_)
           | (with_reducible refine alloc_w rfl 27 rfl (.agg (cmC 0 zN zN)) zeroCm (cmC 0 zN zN) rfl ?_; intro x w1 hx B k1)
           | (refine store_w B rfl 27 _ _ (cmC (d i) (h i) (b i)) rfl rfl rfl (by rw [cmC_size]; exact cmInfo) (by rw [cmC_size, cmC_size]) (cmC_one _ _ _) ?_; intro w2 B2 k2; have c0 := cm_id B2))
         refine (q _).mono ?_
         rintro e w3 ⟨rfl, rfl⟩
         have C2 : Chg w w3 [] := (C.trans1 k1).new k2 (by have := C.size; omega)
         go_wp2_with fail
         go_ret
         exact ⟨_, rfl, Or.inr (Or.inl ⟨HH.out, i, HI.out, HD.out, HO.out, _, rfl, C2.size, Blk.new _ _ _⟩), C2.alloc _⟩
end Go.Proofs.YtgjclegpnbjlkaaGreatDoor
