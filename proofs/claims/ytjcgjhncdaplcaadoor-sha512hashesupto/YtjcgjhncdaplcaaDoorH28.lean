/- (*Hasher).Reset; a Hasher and its mirror. -/
import Derived.Test.YtjcgjhncdaplcaaDoorH27
import Derived.Test.YtjcgjhncdaplcaaDoorH15
import Derived.Test.YtjcgjhncdaplcaaDoorH16
set_option linter.unusedVariables false
set_option linter.unusedSimpArgs false
set_option linter.unnecessarySimpa false
namespace Go.Proofs.YtjcgjhncdaplcaaDoor
open Go.RowKit

set_option maxHeartbeats 4000000 in
set_option maxRecDepth 100000 in
theorem Reset_s (h n : Nat) (s t : Nat → Nat) (w : World) (hG : Gl w) (hh : Blk w h (hC s t n) 96) :
    Calls Tryd.prog 35 #[.pointer (some ⟨h, 0, none⟩)] w fun e w' => e = .returned (.tuple #[]) ∧ Chg w w' [h] ∧ Blk w' h (hC IV (fun _ => 0) 0) 96 := by
  have c2 := (hh.cell 137).trans (hC_made s t n)
  have HZ : Hid ((hC s t n).size = 138) := hC_size _ _ _
  have HZ2 : Hid ((hC IV (fun _ => 0) 0).size = 138) := hC_size _ _ _
  have HO : Hid ((hC IV (fun _ => 0) 0).all (·.oneCell') = true) := hC_one _ _ _
  have HB : Hid (∀ w, Gl w → Calls Tryd.prog 40 #[] w fun e w' => e = .returned (.agg (hC IV (fun _ => 0) 0)) ∧ Chg w w' []) := fun w hG => begun_s w hG
  obtain ⟨ch, hch⟩ : ∃ c, hC s t n = c := ⟨_, rfl⟩
  obtain ⟨cz, hcz⟩ : ∃ c, hC IV (fun _ => 0) 0 = c := ⟨_, rfl⟩
  rw [hch] at hh HZ
  rw [hcz] at HZ2 HO HB
  rw [hcz]
  clear hch hcz
  go_enter Tryd.func35, Tryd.ntmps35
  go_wp2_with fail
  refine (HB.out _ hG).mono ?_
  rintro e v1 ⟨rfl, k1⟩
  replace hh := hh.chg k1 (by simp)
  go_wp2_with (with_reducible refine store_b hh 96 (.tmp 12) (.tmp 11) cz ?_ ?_ ?_ ?_ ?_ ?_ HO.out ?_
               · rfl
               · rfl
               · rfl
               · rfl
               · (rw [HZ2.out]; exact HInfo)
               · (rw [HZ.out, HZ2.out]))
  go_end0
  exact ⟨rfl, k1.wide.trans1 (Chg.of (gb_setRow (gb_refl v1 (some h)) cz)), hh.setRow cz⟩
theorem Hm.reset {w : World} {h : Nat} {S T : Nat → Nat} {n : Nat} (hG : Gl w) (H : Hm w h S T n) :
    Calls Tryd.prog 35 #[.pointer (some ⟨h, 0, none⟩)] w fun e w' => e = .returned (.tuple #[]) ∧ Chg w w' [h] ∧ Hm w' h IV (fun _ => 0) 0 := by
  obtain ⟨t, B, _, _⟩ := H
  refine (Reset_s h n S t w hG B).mono ?_
  rintro e w' ⟨rfl, k, B'⟩
  exact ⟨rfl, k, fun _ => 0, B', fun _ _ => Nat.zero_lt_succ _, fun _ _ => rfl⟩
theorem Hm.len {w : World} {h : Nat} {S T : Nat → Nat} {n : Nat} (H : Hm w h S T n) :
    Calls Tryd.prog 32 #[.pointer (some ⟨h, 0, none⟩)] w fun e w' => e = .returned (.int .u64 (n : Int)) ∧ w' = w := by
  obtain ⟨t, B, _, _⟩ := H
  exact Len_s h n S t w B
/-- A Hasher and a midstate that mirrors it. -/
structure HI (w wr : World) (hb mb n : Nat) (S T : Nat → Nat) (tv : Value) : Prop where
  hm : Hm wr hb S T n
  mm : Blk wr mb (mC S tv n) 73
  sl : Sl wr tv (n % 128) T
  oh : Off tv [hb]
  om : Off tv [mb]
  hh : w.heap.size ≤ hb
  hn : w.heap.size ≤ mb
  ne : ¬ hb = mb
  us : ∀ i, i < 8 → U (S i)
  gl : Gl wr
  two : 2 ≤ w.heap.size
  cc : Chg w wr []
theorem HI.chg {w wr wr' : World} {hb mb n : Nat} {S T : Nat → Nat} {tv : Value} (h : HI w wr hb mb n S T tv) (k : Chg wr wr' []) : HI w wr' hb mb n S T tv :=
  ⟨h.hm.chg k (by simp), h.mm.chg k (by simp), h.sl.chg k (Off.nil _), h.oh, h.om, h.hh, h.hn, h.ne, h.us, h.gl.chg k (by simp) (by simp), h.two, h.cc.trans1 k⟩
theorem HI.cm {w wr : World} {hb mb n : Nat} {S T : Nat → Nat} {tv : Value} (h : HI w wr hb mb n S T tv) : (mC S tv n).all (·.oneCell') = true := by
  obtain ⟨p, c, rfl, _⟩ := h.sl.frm
  exact mC_one _ _ _ rfl
end Go.Proofs.YtjcgjhncdaplcaaDoor
