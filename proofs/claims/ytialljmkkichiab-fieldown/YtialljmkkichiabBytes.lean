/- (*number).bytes: the canonical number's 32 bytes. -/
import Derived.Test.YtialljmkkichiabReduce
import Derived.Test.YtialljmkkichiabWord
import Derived.Deep.RegionHeld3
set_option linter.unusedVariables false
set_option linter.unusedSimpArgs false
set_option linter.unnecessarySimpa false
namespace Go.Proofs.Ytialljmkkichiab
open Go.RowKit N

/-- 32 bytes 0. -/
def z32 : Array Value := #[.int .u8 0, .int .u8 0, .int .u8 0, .int .u8 0, .int .u8 0, .int .u8 0, .int .u8 0, .int .u8 0, .int .u8 0, .int .u8 0, .int .u8 0, .int .u8 0, .int .u8 0, .int .u8 0, .int .u8 0, .int .u8 0, .int .u8 0, .int .u8 0, .int .u8 0, .int .u8 0, .int .u8 0, .int .u8 0, .int .u8 0, .int .u8 0, .int .u8 0, .int .u8 0, .int .u8 0, .int .u8 0, .int .u8 0, .int .u8 0, .int .u8 0, .int .u8 0]
theorem feInfo : (Try.prog.info? 23).map (·.size) = some 32 := by kernel_rfl
theorem feC_one (n : Int) : (feC n).all (·.oneCell') = true := by simp [feL, Value.oneCell']

set_option maxHeartbeats 8000000 in
set_option maxRecDepth 100000 in
theorem bytes_any (z : Nat) (x0 x1 x2 x3 x4 : Int) (w : World) (hz : NumAt w z x0 x1 x2 x3 x4) (h0 : Wo x0) (h1 : Wo x1) (h2 : Wo x2) (h3 : Wo x3) (h4 : Wo x4) :
    Calls Try.prog 38 #[.pointer (some ⟨z, 0, none⟩)] w fun e w' => e = .returned (fe (V x0 x1 x2 x3 x4 % P)) ∧
      ∃ y0 y1 y2 y3 y4 : Int, NumAt w' z y0 y1 y2 y3 y4 ∧ w.grownBy w' (some z) ∧ (Li y0 ∧ Li y1 ∧ Li y2 ∧ Li y3 ∧ Li y4) ∧ V y0 y1 y2 y3 y4 = V x0 x1 x2 x3 x4 % P := by
  have hzlt := hz.lt
  go_enter Try.func38, Try.ntmps38
  go_wp2_with fail
  refine (reduce_any z x0 x1 x2 x3 x4 _ (Blk.alloc hz _) h0 h1 h2 h3 h4).mono ?_
  rintro e w0 ⟨rfl, y0, y1, y2, y3, y4, hn, hg, ⟨l0, l1, l2, l3, l4⟩, hv⟩
  have HA : Blk w0 w.heap.size z32 23 := (Blk.new w z32 23).grown hg (by simp; omega)
  have GG : w.grownBy w0 (some z) := gb_trans (gb_alloc (gb_refl w _) _) hg
  have HV : Hid (V y0 y1 y2 y3 y4 = V x0 x1 x2 x3 x4 % P) := hv
  have BV := bytes_val y0 y1 y2 y3 y4 l0 l1 l2 l3 l4
  have L : Hid (Li y0 ∧ Li y1 ∧ Li y2 ∧ Li y3 ∧ Li y4) := ⟨l0, l1, l2, l3, l4⟩
  have hne : z ≠ w.heap.size := by omega
  clear hg hv hz
  obtain ⟨a0, c0⟩ := l0; obtain ⟨a1, c1⟩ := l1; obtain ⟨a2, c2⟩ := l2; obtain ⟨a3, c3⟩ := l3; obtain ⟨a4, c4⟩ := l4
  unfold NumAt at hn
  have t0 : IntKind.u64.wrap (y1 * 2251799813685248) = y1 * 2251799813685248 % 18446744073709551616 := IntKind.wrap_u64 _
  have b0 : 0 ≤ y0 + y1 * 2251799813685248 % 18446744073709551616 ∧ y0 + y1 * 2251799813685248 % 18446744073709551616 < 18446744073709551616 := by omega
  have o0 : bits .or .u64 (y0) (y1 * 2251799813685248 % 18446744073709551616) = y0 + y1 * 2251799813685248 % 18446744073709551616 := or_join 51 _ _ (by decide) (by omega) (by simp only [Int.reducePow]; omega) (by omega) (by omega) (by simp only [Int.reducePow]; omega)
  have t1 : IntKind.u64.wrap (y2 * 274877906944) = y2 * 274877906944 % 18446744073709551616 := IntKind.wrap_u64 _
  have b1 : 0 ≤ y1 / 8192 + y2 * 274877906944 % 18446744073709551616 ∧ y1 / 8192 + y2 * 274877906944 % 18446744073709551616 < 18446744073709551616 := by omega
  have o1 : bits .or .u64 (y1 / 8192) (y2 * 274877906944 % 18446744073709551616) = y1 / 8192 + y2 * 274877906944 % 18446744073709551616 := or_join 38 _ _ (by decide) (by omega) (by simp only [Int.reducePow]; omega) (by omega) (by omega) (by simp only [Int.reducePow]; omega)
  have t2 : IntKind.u64.wrap (y3 * 33554432) = y3 * 33554432 % 18446744073709551616 := IntKind.wrap_u64 _
  have b2 : 0 ≤ y2 / 67108864 + y3 * 33554432 % 18446744073709551616 ∧ y2 / 67108864 + y3 * 33554432 % 18446744073709551616 < 18446744073709551616 := by omega
  have o2 : bits .or .u64 (y2 / 67108864) (y3 * 33554432 % 18446744073709551616) = y2 / 67108864 + y3 * 33554432 % 18446744073709551616 := or_join 25 _ _ (by decide) (by omega) (by simp only [Int.reducePow]; omega) (by omega) (by omega) (by simp only [Int.reducePow]; omega)
  have t3 : IntKind.u64.wrap (y4 * 4096) = y4 * 4096 := wr _ (by omega) (by omega)
  have b3 : 0 ≤ y3 / 549755813888 + y4 * 4096 ∧ y3 / 549755813888 + y4 * 4096 < 18446744073709551616 := by omega
  have o3 : bits .or .u64 (y3 / 549755813888) (y4 * 4096) = y3 / 549755813888 + y4 * 4096 := or_join 12 _ _ (by decide) (by omega) (by simp only [Int.reducePow]; omega) (by omega) (by omega) (by simp only [Int.reducePow]; omega)
  generalize y0 + y1 * 2251799813685248 % 18446744073709551616 = W0 at *
  generalize y1 / 8192 + y2 * 274877906944 % 18446744073709551616 = W1 at *
  generalize y2 / 67108864 + y3 * 33554432 % 18446744073709551616 = W2 at *
  generalize y3 / 549755813888 + y4 * 4096 = W3 at *
  have HBV := BV
  replace HBV : Hid (W0 + W1 * 18446744073709551616 + W2 * 340282366920938463463374607431768211456 + W3 * 6277101735386680763835789423207666416102355444464034512896 = V y0 y1 y2 y3 y4) := BV
  clear BV
  generalize hgg : w.heap.size = g at *
  have HGG : Hid (w.heap.size = g) := hgg
  clear hgg
  have u0 := hn.cell 0; have u1 := hn.cell 1
  simp at u0 u1
  go_wp2_with fail
  go_region_held3 (fun w' => w'.cell? ⟨z, 0, none⟩ = some (.int .u64 y0) ∧ w'.cell? ⟨z, 1, none⟩ = some (.int .u64 y1)) (simp [*, go_sem]) (first | (go_at_call 73; refine (putWord_blk g 0 32 W0 b0.1 b0.2 _ 23 _ HA.drew (by simp [z32])).mono ?_; rintro e w1 ⟨rfl, HA1, hg1⟩; replace hn := hn.drew.grown hg1 (by simpa using hne); have u0 := hn.cell 0; have u1 := hn.cell 1; simp at u0 u1))
  rename_i hh; clear hh
  replace GG := gb_new (gb_drew GG) hg1 (Nat.le_of_eq HGG.out)
  clear HA hg1 u0 u1
  have HA := HA1
  clear HA1
  have u1 := hn.cell 1; have u2 := hn.cell 2
  simp at u1 u2
  go_wp2_with fail
  go_region_held3 (fun w' => w'.cell? ⟨z, 1, none⟩ = some (.int .u64 y1) ∧ w'.cell? ⟨z, 2, none⟩ = some (.int .u64 y2)) (simp [*, go_sem]) (first | (go_at_call 73; refine (putWord_blk g 8 24 W1 b1.1 b1.2 _ 23 _ HA.drew (by simp [z32])).mono ?_; rintro e w2 ⟨rfl, HA2, hg2⟩; replace hn := hn.drew.grown hg2 (by simpa using hne); have u1 := hn.cell 1; have u2 := hn.cell 2; simp at u1 u2))
  rename_i hh; clear hh
  replace GG := gb_new (gb_drew GG) hg2 (Nat.le_of_eq HGG.out)
  clear HA hg2 u1 u2
  have HA := HA2
  clear HA2
  have u2 := hn.cell 2; have u3 := hn.cell 3
  simp at u2 u3
  go_wp2_with fail
  go_region_held3 (fun w' => w'.cell? ⟨z, 2, none⟩ = some (.int .u64 y2) ∧ w'.cell? ⟨z, 3, none⟩ = some (.int .u64 y3)) (simp [*, go_sem]) (first | (go_at_call 73; refine (putWord_blk g 16 16 W2 b2.1 b2.2 _ 23 _ HA.drew (by simp [z32])).mono ?_; rintro e w3 ⟨rfl, HA3, hg3⟩; replace hn := hn.drew.grown hg3 (by simpa using hne); have u2 := hn.cell 2; have u3 := hn.cell 3; simp at u2 u3))
  rename_i hh; clear hh
  replace GG := gb_new (gb_drew GG) hg3 (Nat.le_of_eq HGG.out)
  clear HA hg3 u2 u3
  have HA := HA3
  clear HA3
  have u3 := hn.cell 3; have u4 := hn.cell 4
  simp at u3 u4
  go_wp2_with fail
  go_region_held3 (fun w' => w'.cell? ⟨z, 3, none⟩ = some (.int .u64 y3) ∧ w'.cell? ⟨z, 4, none⟩ = some (.int .u64 y4)) (simp [*, go_sem]) (first | (go_at_call 73; refine (putWord_blk g 24 8 W3 b3.1 b3.2 _ 23 _ HA.drew (by simp [z32])).mono ?_; rintro e w4 ⟨rfl, HA4, hg4⟩; replace hn := hn.drew.grown hg4 (by simpa using hne); have u3 := hn.cell 3; have u4 := hn.cell 4; simp at u3 u4))
  rename_i hh; clear hh
  replace GG := gb_new (gb_drew GG) hg4 (Nat.le_of_eq HGG.out)
  clear HA hg4 u3 u4
  have HA := HA4
  clear HA4
  have HF : Blk w4 g (feC (V y0 y1 y2 y3 y4)) 23 := by
    refine Blk.to HA ?_
    rw [← HBV.out, ← feC_of W0 W1 W2 W3 b0 b1 b2 b3]
    simp [z32]
  clear HA
  rw [HV.out] at HF
  go_wp2_with (first | (refine wpList_load_row rfl 23 _ rfl g rfl 23 _ (0, 0) _ HF Try.underlying23 rfl feInfo ?_) | (refine wpList_store_row rfl 23 _ _ rfl g _ rfl rfl 23 _ HF feInfo rfl (feC_one _) ?_))
  refine bodyPost_ret (results_cell_row Try.results38 _ _ g 23 (feC (V x0 x1 x2 x3 x4 % P)) (0, 0) _ rfl (Blk.setRow HF _) Try.underlying23 rfl feInfo) rfl ⟨rfl, y0, y1, y2, y3, y4, ?_, ?_, L.out, HV.out⟩
  · exact hn.setRowOther hne _
  · exact gb_setRowNew GG (Nat.le_of_eq HGG.out) _
end Go.Proofs.Ytialljmkkichiab
