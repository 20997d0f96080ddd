/- Joined: OwnX, RowA, RSa, RSb. -/
import Derived.Test.YtgjclegpnbjlkaaGreatDoorMwA
import Derived.Test.YtgjclegpnbjlkaaGreatDoorG
import Derived.Test.YtgjclegpnbjlkaaGreatDoorMwQ
import Derived.Lib.SlBytesConst
import Derived.Lib.BufferMore
set_option linter.all false
namespace Go.Proofs.YtgjclegpnbjlkaaGreatDoor
open Go.RowKit
theorem Own.cong {w : World} {base : Nat} {v : Value} {n : Nat} {f g : Nat → Nat} (h : Own w base v n f) (e : ∀ i, i < n → f i = g i) : Own w base v n g := by
 refine ⟨?_, fun i hi => by rw [← e i hi]; exact h.2 i hi⟩
 have e2 : yL n g = yL n f := by
   unfold yL
   exact List.map_congr_left fun i hi => by rw [e i (by simpa using hi)]
 rw [e2]
 exact h.1
theorem own_len1 {w : World} {base : Nat} {v : Value} {n : Nat} {f : Nat → Nat} (O : Own w base v n f) : ∃ p c, v = .slice p n c := by
 obtain ⟨⟨_, h1⟩, _⟩ := O
 rcases h1 with ⟨rfl, rfl⟩ | ⟨g, cap, cur, rfl, _⟩
 · exact ⟨none, 0, rfl⟩
 · exact ⟨_, _, rfl⟩
def sln : Value → Nat
 | .slice _ n _ => n
 | _ => 0
theorem one_sl (w : World) (x : Nat) (hx : x < 256) : Sl (w.alloc (.cells #[.int .u8 (x : Int)] 5)) (.slice (some ⟨w.heap.size, 0, none⟩) 1 1) 1 (fun _ => x) := by
 have B := Blk.new w #[.int .u8 (x : Int)] 5
 refine Or.inr ⟨w.heap.size, 0, 1, rfl, Nat.le_refl _, by omega, B.lt, fun _ _ => hx, fun i hi => ?_⟩
 obtain rfl : i = 0 := by omega
 rw [Nat.zero_add, B.cell]
 rfl
theorem own_one (w : World) (x : Nat) (hx : x < 256) : Own (w.alloc (.cells #[.int .u8 (x : Int)] 5)) w.heap.size (.slice (some ⟨w.heap.size, 0, none⟩) 1 1) 1 (fun _ => x) :=
 ⟨⟨by simp [yL], .inr ⟨w.heap.size, 1, #[.int .u8 (x : Int)], rfl, Nat.le_refl _, heap_alloc_new w _, Nat.le_refl _, by simp [maxLen], by simp, by simp [yL]⟩⟩, fun _ _ => hx⟩
end Go.Proofs.YtgjclegpnbjlkaaGreatDoor

set_option linter.all false
namespace Go.Proofs.YtgjclegpnbjlkaaGreatDoor
open Go.RowKit
theorem load_b {P : Program} {w : World} {ops : Array Oper} {rest : List Oper} {op : Oper} {a : Act} {Q : Exit → Act → World → Prop} {g : Nat} {cs : Array Value} {t : TypeId} (hg : Blk w g cs t) (ty : TypeId) (x : Operand) {d : TypeDesc} (hu : P.underlying ty = some d)
   (hgd : op.guard = none) (ho : op.op = .load ty x) (hx : a.eval x = .pointer (some ⟨g, 0, none⟩)) (hd : (match d with | .struct _ | .array _ _ => true | _ => false) = true) (hi : (P.info? ty).map (·.size) = some cs.size)
   (h : wpList P ops Q rest (a.put op.dst (.agg cs)) w) : wpList P ops Q (op :: rest) a w := wpList_load_row hgd ty x ho g hx t cs (0, 0) d hg hu hd hi h
theorem store_b {P : Program} {w : World} {ops : Array Oper} {rest : List Oper} {op : Oper} {a : Act} {Q : Exit → Act → World → Prop} {g : Nat} {cs : Array Value} {t : TypeId} (hg : Blk w g cs t) (ty : TypeId) (x y : Operand) (cells : Array Value)
   (hgd : op.guard = none) (ho : op.op = .store ty x y) (hx : a.eval x = .pointer (some ⟨g, 0, none⟩)) (hy : a.eval y = .agg cells) (hi : (P.info? ty).map (·.size) = some cells.size) (hs : cs.size = cells.size) (h1 : cells.all (·.oneCell') = true)
   (h : wpList P ops Q rest (a.put op.dst undef) (w.setRow g cells)) : wpList P ops Q (op :: rest) a w := wpList_store_row hgd ty x y ho g cells hx hy t cs hg hi hs h1 h
end Go.Proofs.YtgjclegpnbjlkaaGreatDoor

set_option linter.all false
namespace Go.Proofs.YtgjclegpnbjlkaaGreatDoor
set_option maxHeartbeats 4000000
set_option maxRecDepth 100000
open Go.RowKit
def z8 : Array Value := #[.int .u64 0, .int .u64 0, .int .u64 0, .int .u64 0, .int .u64 0, .int .u64 0, .int .u64 0, .int .u64 0]
theorem rror_1 (x : Nat) (hx : U x) (w : World) : Calls Tryz.prog 108 #[.int .u64 x, .int .u64 1] w fun e w' => e = .returned (.int .u64 (rr 1 x : Nat)) ∧ w' = w := by
 unfold U at hx
 have e2 : bits .or .u64 ((x : Int) / 2) (IntKind.u64.wrap ((x : Int) * 9223372036854775808)) = ((rr 1 x : Nat) : Int) := by
   rw [IntKind.wrap_u64]
   have h1 : ((x : Int) * 9223372036854775808) % 18446744073709551616 = ((x * 9223372036854775808 % 18446744073709551616 : Nat) : Int) := by omega
   have h2 : (x : Int) / 2 = ((x / 2 : Nat) : Int) := by omega
   rw [h1, h2, u64_or_nat _ _ (by omega) (by omega)]
   unfold rr
   rw [Nat.shiftLeft_eq, Nat.shiftRight_eq_div_pow]
 go_enter Tryz.func108, Tryz.ntmps108
 go_wp2
 go_ret
 exact ⟨by rw [← e2]; rfl, rfl⟩
theorem rror_8 (x : Nat) (hx : U x) (w : World) : Calls Tryz.prog 108 #[.int .u64 x, .int .u64 8] w fun e w' => e = .returned (.int .u64 (rr 8 x : Nat)) ∧ w' = w := by
 unfold U at hx
 have e2 : bits .or .u64 ((x : Int) / 256) (IntKind.u64.wrap ((x : Int) * 72057594037927936)) = ((rr 8 x : Nat) : Int) := by
   rw [IntKind.wrap_u64]
   have h1 : ((x : Int) * 72057594037927936) % 18446744073709551616 = ((x * 72057594037927936 % 18446744073709551616 : Nat) : Int) := by omega
   have h2 : (x : Int) / 256 = ((x / 256 : Nat) : Int) := by omega
   rw [h1, h2, u64_or_nat _ _ (by omega) (by omega)]
   unfold rr
   rw [Nat.shiftLeft_eq, Nat.shiftRight_eq_div_pow]
 go_enter Tryz.func108, Tryz.ntmps108
 go_wp2
 go_ret
 exact ⟨by rw [← e2]; rfl, rfl⟩
theorem rror_14 (x : Nat) (hx : U x) (w : World) : Calls Tryz.prog 108 #[.int .u64 x, .int .u64 14] w fun e w' => e = .returned (.int .u64 (rr 14 x : Nat)) ∧ w' = w := by
 unfold U at hx
 have e2 : bits .or .u64 ((x : Int) / 16384) (IntKind.u64.wrap ((x : Int) * 1125899906842624)) = ((rr 14 x : Nat) : Int) := by
   rw [IntKind.wrap_u64]
   have h1 : ((x : Int) * 1125899906842624) % 18446744073709551616 = ((x * 1125899906842624 % 18446744073709551616 : Nat) : Int) := by omega
   have h2 : (x : Int) / 16384 = ((x / 16384 : Nat) : Int) := by omega
   rw [h1, h2, u64_or_nat _ _ (by omega) (by omega)]
   unfold rr
   rw [Nat.shiftLeft_eq, Nat.shiftRight_eq_div_pow]
 go_enter Tryz.func108, Tryz.ntmps108
 go_wp2
 go_ret
 exact ⟨by rw [← e2]; rfl, rfl⟩
theorem rror_18 (x : Nat) (hx : U x) (w : World) : Calls Tryz.prog 108 #[.int .u64 x, .int .u64 18] w fun e w' => e = .returned (.int .u64 (rr 18 x : Nat)) ∧ w' = w := by
 unfold U at hx
 have e2 : bits .or .u64 ((x : Int) / 262144) (IntKind.u64.wrap ((x : Int) * 70368744177664)) = ((rr 18 x : Nat) : Int) := by
   rw [IntKind.wrap_u64]
   have h1 : ((x : Int) * 70368744177664) % 18446744073709551616 = ((x * 70368744177664 % 18446744073709551616 : Nat) : Int) := by omega
   have h2 : (x : Int) / 262144 = ((x / 262144 : Nat) : Int) := by omega
   rw [h1, h2, u64_or_nat _ _ (by omega) (by omega)]
   unfold rr
   rw [Nat.shiftLeft_eq, Nat.shiftRight_eq_div_pow]
 go_enter Tryz.func108, Tryz.ntmps108
 go_wp2
 go_ret
 exact ⟨by rw [← e2]; rfl, rfl⟩
theorem rror_19 (x : Nat) (hx : U x) (w : World) : Calls Tryz.prog 108 #[.int .u64 x, .int .u64 19] w fun e w' => e = .returned (.int .u64 (rr 19 x : Nat)) ∧ w' = w := by
 unfold U at hx
 have e2 : bits .or .u64 ((x : Int) / 524288) (IntKind.u64.wrap ((x : Int) * 35184372088832)) = ((rr 19 x : Nat) : Int) := by
   rw [IntKind.wrap_u64]
   have h1 : ((x : Int) * 35184372088832) % 18446744073709551616 = ((x * 35184372088832 % 18446744073709551616 : Nat) : Int) := by omega
   have h2 : (x : Int) / 524288 = ((x / 524288 : Nat) : Int) := by omega
   rw [h1, h2, u64_or_nat _ _ (by omega) (by omega)]
   unfold rr
   rw [Nat.shiftLeft_eq, Nat.shiftRight_eq_div_pow]
 go_enter Tryz.func108, Tryz.ntmps108
 go_wp2
 go_ret
 exact ⟨by rw [← e2]; rfl, rfl⟩
theorem rror_28 (x : Nat) (hx : U x) (w : World) : Calls Tryz.prog 108 #[.int .u64 x, .int .u64 28] w fun e w' => e = .returned (.int .u64 (rr 28 x : Nat)) ∧ w' = w := by
 unfold U at hx
 have e2 : bits .or .u64 ((x : Int) / 268435456) (IntKind.u64.wrap ((x : Int) * 68719476736)) = ((rr 28 x : Nat) : Int) := by
   rw [IntKind.wrap_u64]
   have h1 : ((x : Int) * 68719476736) % 18446744073709551616 = ((x * 68719476736 % 18446744073709551616 : Nat) : Int) := by omega
   have h2 : (x : Int) / 268435456 = ((x / 268435456 : Nat) : Int) := by omega
   rw [h1, h2, u64_or_nat _ _ (by omega) (by omega)]
   unfold rr
   rw [Nat.shiftLeft_eq, Nat.shiftRight_eq_div_pow]
 go_enter Tryz.func108, Tryz.ntmps108
 go_wp2
 go_ret
 exact ⟨by rw [← e2]; rfl, rfl⟩
theorem rror_34 (x : Nat) (hx : U x) (w : World) : Calls Tryz.prog 108 #[.int .u64 x, .int .u64 34] w fun e w' => e = .returned (.int .u64 (rr 34 x : Nat)) ∧ w' = w := by
 unfold U at hx
 have e2 : bits .or .u64 ((x : Int) / 17179869184) (IntKind.u64.wrap ((x : Int) * 1073741824)) = ((rr 34 x : Nat) : Int) := by
   rw [IntKind.wrap_u64]
   have h1 : ((x : Int) * 1073741824) % 18446744073709551616 = ((x * 1073741824 % 18446744073709551616 : Nat) : Int) := by omega
   have h2 : (x : Int) / 17179869184 = ((x / 17179869184 : Nat) : Int) := by omega
   rw [h1, h2, u64_or_nat _ _ (by omega) (by omega)]
   unfold rr
   rw [Nat.shiftLeft_eq, Nat.shiftRight_eq_div_pow]
 go_enter Tryz.func108, Tryz.ntmps108
 go_wp2
 go_ret
 exact ⟨by rw [← e2]; rfl, rfl⟩
theorem rror_39 (x : Nat) (hx : U x) (w : World) : Calls Tryz.prog 108 #[.int .u64 x, .int .u64 39] w fun e w' => e = .returned (.int .u64 (rr 39 x : Nat)) ∧ w' = w := by
 unfold U at hx
 have e2 : bits .or .u64 ((x : Int) / 549755813888) (IntKind.u64.wrap ((x : Int) * 33554432)) = ((rr 39 x : Nat) : Int) := by
   rw [IntKind.wrap_u64]
   have h1 : ((x : Int) * 33554432) % 18446744073709551616 = ((x * 33554432 % 18446744073709551616 : Nat) : Int) := by omega
   have h2 : (x : Int) / 549755813888 = ((x / 549755813888 : Nat) : Int) := by omega
   rw [h1, h2, u64_or_nat _ _ (by omega) (by omega)]
   unfold rr
   rw [Nat.shiftLeft_eq, Nat.shiftRight_eq_div_pow]
 go_enter Tryz.func108, Tryz.ntmps108
 go_wp2
 go_ret
 exact ⟨by rw [← e2]; rfl, rfl⟩
theorem rror_41 (x : Nat) (hx : U x) (w : World) : Calls Tryz.prog 108 #[.int .u64 x, .int .u64 41] w fun e w' => e = .returned (.int .u64 (rr 41 x : Nat)) ∧ w' = w := by
 unfold U at hx
 have e2 : bits .or .u64 ((x : Int) / 2199023255552) (IntKind.u64.wrap ((x : Int) * 8388608)) = ((rr 41 x : Nat) : Int) := by
   rw [IntKind.wrap_u64]
   have h1 : ((x : Int) * 8388608) % 18446744073709551616 = ((x * 8388608 % 18446744073709551616 : Nat) : Int) := by omega
   have h2 : (x : Int) / 2199023255552 = ((x / 2199023255552 : Nat) : Int) := by omega
   rw [h1, h2, u64_or_nat _ _ (by omega) (by omega)]
   unfold rr
   rw [Nat.shiftLeft_eq, Nat.shiftRight_eq_div_pow]
 go_enter Tryz.func108, Tryz.ntmps108
 go_wp2
 go_ret
 exact ⟨by rw [← e2]; rfl, rfl⟩
theorem rror_61 (x : Nat) (hx : U x) (w : World) : Calls Tryz.prog 108 #[.int .u64 x, .int .u64 61] w fun e w' => e = .returned (.int .u64 (rr 61 x : Nat)) ∧ w' = w := by
 unfold U at hx
 have e2 : bits .or .u64 ((x : Int) / 2305843009213693952) (IntKind.u64.wrap ((x : Int) * 8)) = ((rr 61 x : Nat) : Int) := by
   rw [IntKind.wrap_u64]
   have h1 : ((x : Int) * 8) % 18446744073709551616 = ((x * 8 % 18446744073709551616 : Nat) : Int) := by omega
   have h2 : (x : Int) / 2305843009213693952 = ((x / 2305843009213693952 : Nat) : Int) := by omega
   rw [h1, h2, u64_or_nat _ _ (by omega) (by omega)]
   unfold rr
   rw [Nat.shiftLeft_eq, Nat.shiftRight_eq_div_pow]
 go_enter Tryz.func108, Tryz.ntmps108
 go_wp2
 go_ret
 exact ⟨by rw [← e2]; rfl, rfl⟩
theorem Words_r (w : World) : Calls Tryz.prog 87 #[] w fun e w' => e = .returned (.agg (vC 8 IV)) ∧ Chg w w' [] := by
 have A := Blk.new w z8 189
 go_enter Tryz.func87, Tryz.ntmps87
 go_wp2_with (first | (refine wpList_build_c rfl 189 _ rfl (vC 8 IV) (by kernel_rfl) ?_) | (refine wpList_store_row rfl 189 _ _ rfl w.heap.size _ rfl rfl 189 _ A (by rw [vC_size]; exact S8Info) (by rw [vC_size]; rfl) (vC_one _ _) ?_))
 exact bodyPost_ret (results_cell_row Tryz.results87 _ _ w.heap.size 189 (vC 8 IV) (0, 0) _ rfl (A.setRow _) Tryz.underlying189 rfl (by rw [vC_size]; exact S8Info)) rfl ⟨rfl, ((Chg.refl w []).alloc _).setRowNew (Nat.le_refl _) _⟩
theorem Constants_r (w : World) : Calls Tryz.prog 107 #[] w fun e w' => e = .returned (.agg (vC 80 KK)) ∧ Chg w w' [] := by
 have A := Blk.new w Tryz.zeroCells221 221
 have sz : Tryz.zeroCells221.size = 80 := by kernel_rfl
 go_enter Tryz.func107, Tryz.ntmps107
 go_wp2_with (first | (refine wpList_build_c rfl 221 _ rfl (vC 80 KK) (by kernel_rfl) ?_) | (refine wpList_store_row rfl 221 _ _ rfl w.heap.size _ rfl rfl 221 _ A (by rw [vC_size]; exact W80Info) (by rw [vC_size]; exact sz) (vC_one _ _) ?_))
 exact bodyPost_ret (results_cell_row Tryz.results107 _ _ w.heap.size 221 (vC 80 KK) (0, 0) _ rfl (A.setRow _) Tryz.underlying221 rfl (by rw [vC_size]; exact W80Info)) rfl ⟨rfl, ((Chg.refl w []).alloc _).setRowNew (Nat.le_refl _) _⟩
end Go.Proofs.YtgjclegpnbjlkaaGreatDoor

set_option linter.all false
namespace Go.Proofs.YtgjclegpnbjlkaaGreatDoor
set_option maxHeartbeats 8000000
set_option maxRecDepth 100000
open Go.RowKit
theorem zr_lt (n : Nat) : zr n < 128 := Nat.mod_lt _ (by decide)
theorem zr_end (n m : Nat) (h1 : 1 ≤ m) (h2 : m ≤ 1 + zr n) : (n + m) % 128 = 112 ↔ m = 1 + zr n := by
 unfold zr at *
 omega
theorem pdf_0 (n : Nat) : pdf n 0 = 128 := by
 unfold pdf pw up
 rw [if_neg (by omega), if_pos rfl]
theorem pdf_mid (n m : Nat) (h1 : 1 ≤ m) (h2 : m < 9 + zr n) : pdf n m = 0 := by
 unfold pdf pw up
 rw [if_neg (by omega), if_neg (by omega)]
theorem pdf_top (n k : Nat) (hn : n < 2305843009213693952) (hk : k < 8) : pdf n (9 + zr n + k) = 8 * n / 256 ^ (7 - k) % 256 := by
 have e : 8 * n % 18446744073709551616 = 8 * n := Nat.mod_eq_of_lt (by omega)
 unfold pdf pw
 rw [if_pos ⟨by omega, by omega⟩, e, show 9 + zr n + k - (9 + zr n) = k by omega]
theorem cat_1h {n m x : Nat} {g : Nat → Nat} (hx : x = pdf n m) : ∀ i, i < m + 1 → cat (pdf n) m (fun _ => x) i = pdf n i := by
 intro i hi
 unfold cat
 by_cases h : i < m
 · rw [if_pos h]
 · rw [if_neg h, hx, show i = m by omega]
def P3 (w : World) (n Z : Nat) (t ta : Value) (wr : World) : Prop := ∃ (r : Nat) (av : Value), r ≤ 8 ∧ t = .int .i64 ((r : Int) - 1) ∧ av = ta ∧ Own wr w.heap.size av (9 + Z + (8 - r)) (pdf n) ∧ Chg w wr []
theorem Pad_r (n : Nat) (w : World) (hn : n < 2305843009213693952) : Calls Tryz.prog 109 #[.int .u64 n] w fun e w' => ∃ v, e = .returned (.tuple #[v, .int .i64 0]) ∧ Own w' w.heap.size v (17 + zr n) (pdf n) ∧ Chg w w' [] := by
 have hI : ¬ (2305843009213693952 : Int) ≤ (n : Int) := by omega
 have hz := zr_lt n
 obtain ⟨Z, hZ⟩ : ∃ Z, zr n = Z := ⟨_, rfl⟩
 have HE : Hid (∀ m, 1 ≤ m → m ≤ 1 + Z → ((n + m) % 128 = 112 ↔ m = 1 + Z)) := fun m h1 h2 => by have := zr_end n m h1 (by omega); rw [hZ] at this; exact this
 have HM : Hid (∀ m, 1 ≤ m → m < 9 + Z → 0 = pdf n m) := fun m h1 h2 => (pdf_mid n m h1 (by omega)).symm
 have HT : Hid (∀ k, k < 8 → pdf n (9 + Z + k) = 8 * n / 256 ^ (7 - k) % 256) := fun k hk => by have := pdf_top n k hn hk; rw [hZ] at this; exact this
 rw [hZ] at hz ⊢
 have HN : Hid (n < 2305843009213693952) := hn
 clear hZ hn
 have O0 := (own_one w 128 (by decide)).cong (g := pdf n) (fun i hi => by rw [show i = 0 by omega]; exact (pdf_0 n).symm)
 have C0 : Chg w (w.alloc (.cells #[.int .u8 ((128 : Nat) : Int)] 5)) [] := (Chg.refl w []).alloc _
 go_enter Tryz.func109, Tryz.ntmps109
 go_wp2_with fail
 go_loopw [4] (fun ta wr => ∃ (m : Nat) (av : Value), 1 ≤ m ∧ m ≤ 1 + Z ∧ av = ta ∧ Own wr w.heap.size av m (pdf n) ∧ Chg w wr []) (fun ta _ => 1 + Z - sln ta)
 case atStart => exact ⟨1, _, Nat.le_refl _, by omega, rfl, O0, C0⟩
 case round =>
   clear O0 C0
   obtain ⟨m, av, h1, h2, rfl, OA, CC⟩ := hrel
   obtain ⟨ap, ac, rfl⟩ := own_len1 OA
   have hm64 : IntKind.u64.wrap (m : Int) = (m : Int) := by rw [IntKind.wrap_u64]; omega
   obtain ⟨nm, hnm⟩ : ∃ x, n + m = x := ⟨_, rfl⟩
   obtain ⟨q, hq⟩ : ∃ x, nm % 128 = x := ⟨_, rfl⟩
   have hsum : IntKind.u64.wrap ((n : Int) + (m : Int)) = (nm : Int) := by have := HN.out; rw [IntKind.wrap_u64]; omega
   have hrem : (nm : Int).tmod 128 = (q : Int) := by rw [Int.tmod_eq_emod_of_nonneg (by omega)]; omega
   have hq2 := HE.out m h1 h2
   rw [hnm, hq] at hq2
   clear hnm hq
   by_cases he : m = 1 + Z
   · have hq3 : (q : Int) = 112 := by have := hq2.2 he; omega
     have HEM : Hid (m = 1 + Z) := he
     clear hq2 he
     go_wp2_with fail
     go_loopw [5, 4] (fun t ta wr => ∃ (i : Nat) (av : Value), i ≤ 8 ∧ t = .int .i64 (i : Int) ∧ av = ta ∧ Own wr w.heap.size av (1 + Z + i) (pdf n) ∧ Chg w wr []) (fun t _ _ => (8 - intOf t).toNat)
     case atStart => exact ⟨0, _, by omega, rfl, rfl, by rw [Nat.add_zero, ← HEM.out]; exact OA, CC⟩
     case round =>
       clear OA CC
       obtain ⟨i, av, hi, rfl, rfl, OA, CC⟩ := hrel
       by_cases h8 : i < 8
       · have hI8 : (i : Int) < 8 := by omega
         have K1 : Chg w (wr.alloc (.cells #[.int .u8 0] 5)) [] := CC.alloc _
         have OA1 : Own (wr.alloc (.cells #[.int .u8 0] 5)) w.heap.size av (1 + Z + i) (pdf n) := OA.chg ((Chg.refl wr []).alloc _) (fun j _ hx => by simp at hx)
         have S1 : Sl (wr.alloc (.cells #[.int .u8 0] 5)) (.slice (some ⟨wr.heap.size, 0, none⟩) 1 1) 1 (fun _ => 0) := one_sl wr 0 (by decide)
         have H0 := HM.out (1 + Z + i) (by omega) (by omega)
         have HC : Hid (∀ j, j < 1 + Z + i + 1 → cat (pdf n) (1 + Z + i) (fun _ => 0) j = pdf n j) := cat_1h (g := pdf n) H0
         clear H0
         go_wp2_with (refine append_y rfl (.tmp 24) (.tmp 25) rfl w.heap.size av (.slice (some ⟨wr.heap.size, 0, none⟩) 1 1) (1 + Z + i) 1 (pdf n) (fun _ => 0) rfl rfl OA1 S1 (by omega) K1.size ?_; intro a1 w1 O1 q1; replace O1 := O1.cong HC.out; replace q1 := K1.trans q1 (fun j hj => Or.inr (OA1.ob_ge j hj).1))
         exact ⟨⟨i + 1, _, by omega, by go_num, rfl, O1, q1⟩, by simp [intOf]; omega⟩
       · have HI8 : Hid (i = 8) := by show i = 8; omega
         have hI8 : ¬ (i : Int) < 8 := by omega
         clear h8 hi
         go_wp2_with fail
         go_loopw [6, 4] (fun t ta wr => P3 w n Z t ta wr) (fun t _ _ => (intOf t + 1).toNat)
         case atStart => unfold P3; exact ⟨8, _, by omega, rfl, rfl, by rw [show 9 + Z + (8 - 8) = 1 + Z + i by have := HI8.out; omega]; exact OA, CC⟩
         case round =>
           clear OA CC
           obtain ⟨r, av, hr, rfl, rfl, OA, CC⟩ := hrel
           by_cases hr0 : r = 0
           · subst hr0
             have hneg : ¬ (0 : Int) ≤ ((0 : Nat) : Int) - 1 := by omega
             go_wp2_with fail
             go_ret2
             exact ⟨av, rfl, by rw [show 17 + Z = 9 + Z + (8 - 0) by omega]; exact OA, CC⟩
           · obtain ⟨d, rfl⟩ : ∃ d, r = d + 1 := ⟨r - 1, by omega⟩
             have e1 : (((d + 1 : Nat) : Int) - 1) = (d : Int) := by omega
             rw [e1]
             obtain ⟨x, hx⟩ : ∃ x, 8 * n / 256 ^ d % 256 = x := ⟨_, rfl⟩
             obtain ⟨N8, hN8⟩ : ∃ y, 8 * n = y := ⟨_, rfl⟩
             have hxl : x < 256 := by rw [← hx]; exact Nat.mod_lt _ (by decide)
             have hv0 : (N8 : Int) / 2 ^ (8 * d) % 256 = (x : Int) := by
               rw [← hx, hN8, Int.natCast_emod, Int.natCast_ediv, Int.natCast_pow, show ((256 : Nat) : Int) ^ d = 2 ^ (8 * d) from by rw [Int.pow_mul]; rfl]
               rfl
             have hT := HT.out (7 - d) (by omega)
             rw [show 7 - (7 - d) = d by omega, hx] at hT
             have hw8 : IntKind.u64.wrap ((n : Int) * 8) = (N8 : Int) := by have := HN.out; rw [IntKind.wrap_u64]; omega
             have hwi : IntKind.i64.wrap (8 * (d : Int)) = 8 * (d : Int) := by rw [IntKind.wrap_i64]; omega
             have hwu : IntKind.u64.wrap (8 * (d : Int)) = 8 * (d : Int) := by rw [IntKind.wrap_u64]; omega
             have htn : (8 * (d : Int)).toNat = 8 * d := by omega
             have hmi : min (8 * d) 64 = 8 * d := by omega
             have hi0 : (0 : Int) ≤ (d : Int) := by omega
             have hlen : 9 + Z + (8 - (d + 1)) = 9 + Z + (7 - d) := by omega
             rw [hlen] at OA
             obtain ⟨mm, hmm⟩ : ∃ y, 9 + Z + (7 - d) = y := ⟨_, rfl⟩
             rw [hmm] at OA hT
             have K1 : Chg w (wr.alloc (.cells #[.int .u8 (x : Int)] 5)) [] := CC.alloc _
             have OA1 : Own (wr.alloc (.cells #[.int .u8 (x : Int)] 5)) w.heap.size av mm (pdf n) := OA.chg ((Chg.refl wr []).alloc _) (fun j _ hx => by simp at hx)
             have S1 := one_sl wr x hxl
             have HC : Hid (∀ j, j < mm + 1 → cat (pdf n) mm (fun _ => x) j = pdf n j) := cat_1h (g := pdf n) hT.symm
             have HMM : Hid (9 + Z + (8 - d) = mm + 1) := by show 9 + Z + (8 - d) = mm + 1; omega
             have HML : Hid (mm + 1 ≤ 211106232532992) := by show mm + 1 ≤ 211106232532992; omega
             clear hT hx hN8 hmm hlen e1 hr0
             go_wp2_with (refine append_y rfl (.tmp 31) (.tmp 39) rfl w.heap.size av (.slice (some ⟨wr.heap.size, 0, none⟩) 1 1) mm 1 (pdf n) (fun _ => x) rfl rfl OA1 S1 HML.out K1.size ?_; intro a1 w1 O1 q1; replace O1 := O1.cong HC.out; replace q1 := K1.trans q1 (fun j hj => Or.inr (OA1.ob_ge j hj).1))
             exact ⟨by unfold P3; exact ⟨d, _, by omega, by go_num, rfl, by rw [HMM.out]; exact O1, q1⟩, by simp [intOf]⟩
   · have hq3 : ¬ (q : Int) = 112 := by
       intro hh
       exact he (hq2.1 (by omega))
     clear hq2
     have K1 : Chg w (wr.alloc (.cells #[.int .u8 0] 5)) [] := CC.alloc _
     have OA1 : Own (wr.alloc (.cells #[.int .u8 0] 5)) w.heap.size (.slice ap m ac) m (pdf n) := OA.chg ((Chg.refl wr []).alloc _) (fun j _ hx => by simp at hx)
     have S1 : Sl (wr.alloc (.cells #[.int .u8 0] 5)) (.slice (some ⟨wr.heap.size, 0, none⟩) 1 1) 1 (fun _ => 0) := one_sl wr 0 (by decide)
     have HC : Hid (∀ j, j < m + 1 → cat (pdf n) m (fun _ => 0) j = pdf n j) := cat_1h (g := pdf n) (HM.out m h1 (by omega))
     have HB : Hid (m ≤ Z) := by show m ≤ Z; omega
     have HL : Hid (m + 1 ≤ 211106232532992) := by show m + 1 ≤ 211106232532992; omega
     clear he h1 h2 hz OA CC HM HE HT HN hI
     go_wp2_with (refine append_y rfl (.tmp 17) (.tmp 18) rfl w.heap.size (.slice ap m ac) (.slice (some ⟨wr.heap.size, 0, none⟩) 1 1) m 1 (pdf n) (fun _ => 0) rfl rfl OA1 S1 HL.out K1.size ?_; intro a1 w1 O1 q1; replace O1 := O1.cong HC.out; replace q1 := K1.trans q1 (fun j hj => Or.inr (OA1.ob_ge j hj).1))
     have hb := HB.out
     obtain ⟨bp, bc, rfl⟩ := own_len1 O1
     exact ⟨⟨m + 1, _, by omega, by omega, rfl, O1, q1⟩, by simp [sln]; omega⟩
end Go.Proofs.YtgjclegpnbjlkaaGreatDoor
