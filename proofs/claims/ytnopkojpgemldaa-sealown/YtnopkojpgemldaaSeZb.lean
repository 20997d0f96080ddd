/- seal: Stream. -/
import Derived.Test.YtnopkojpgemldaaSeZa
set_option linter.unusedVariables false
set_option linter.unusedSimpArgs false
set_option linter.unnecessarySimpa false
namespace Go.Proofs.Ytnopkojpgemldaa
open Go.RowKit

/-- N bytes F in a new block, and no error. -/
def AnsE (w : World) (N : Nat) (F : Nat → Nat) (e : Ending) (w' : World) : Prop := ∃ g, e = .returned (.tuple #[.slice (some ⟨g, 0, none⟩) N N, .int .i64 0]) ∧ w.heap.size ≤ g ∧ Blk w' g (yC N F) 5 ∧ Chg w w' []
set_option maxHeartbeats 8000000 in
set_option maxRecDepth 100000 in
theorem Stream_ok (k nn : Nat → Nat) (ct : Nat) (hk : ∀ i, i < 32 → k i < 256) (hn : ∀ i, i < 12 → nn i < 256) (hct : V ct) (v : Value) (n : Nat) (f : Nat → Nat) (w : World) (hv : Sz w v n f) (hm : n ≤ 140737488355456) (hq : ct + (n + 63) / 64 ≤ 4294967296) :
    Calls Try.prog 13 #[.agg (yC 32 k), .int .u32 (ct : Int), .agg (yC 12 nn), v] w fun e w' => AnsE w n (xo f (ks k ct nn)) e w' := by
  have HBG : Hid (∀ w, Calls Try.prog 31 #[.agg (yC 32 k), .int .u32 (ct : Int), .agg (yC 12 nn)] w fun e w' => e = .returned (.agg (tC 16 (st0 k ct nn))) ∧ Chg w w' []) := fun w => begun_s k ct nn hk hn w
  have HVS : Hid (V16 (st0 k ct nn)) := st0_V hk hn hct
  have HV : Hid (Sz w v n f ∧ n ≤ 140737488355456) := ⟨hv, hm⟩
  have HKS : Hid (xo f (ksS (st0 k ct nn)) = xo f (ks k ct nn)) := rfl
  obtain ⟨X, hX⟩ : ∃ X, xo f (ks k ct nn) = X := ⟨_, rfl⟩
  obtain ⟨S, hS⟩ : ∃ S, st0 k ct nn = S := ⟨_, rfl⟩
  rw [hX] at HKS ⊢
  rw [hS] at HBG HVS HKS
  obtain ⟨p1, c1, e1, _⟩ := id hv
  subst e1
  obtain ⟨q, hq1⟩ : ∃ q, (n + 63) / 64 = q := ⟨_, rfl⟩
  obtain ⟨a, ha⟩ : ∃ a, n + 64 = a := ⟨_, rfl⟩
  obtain ⟨b, hb⟩ : ∃ b, n + 63 = b := ⟨_, rfl⟩
  obtain ⟨s, hs⟩ : ∃ s, ct + q = s := ⟨_, rfl⟩
  unfold V at hct
  have w1 : IntKind.u64.wrap (n : Int) = (n : Int) := by rw [IntKind.wrap_u64]; omega
  have w2 : IntKind.u64.wrap ((n : Int) + 64) = (a : Int) := by rw [IntKind.wrap_u64]; omega
  have w3 : IntKind.u64.wrap ((a : Int) - 1) = (b : Int) := by rw [IntKind.wrap_u64]; omega
  have d1 : Int.tdiv (b : Int) 64 = (q : Int) := by rw [Int.tdiv_eq_ediv_of_nonneg (by omega)]; omega
  have w4 : IntKind.u64.wrap (q : Int) = (q : Int) := by rw [IntKind.wrap_u64]; omega
  have w5 : IntKind.u64.wrap (ct : Int) = (ct : Int) := by rw [IntKind.wrap_u64]; omega
  have w6 : IntKind.u64.wrap ((ct : Int) + (q : Int)) = (s : Int) := by rw [IntKind.wrap_u64]; omega
  have hl : ¬ (4294967296 : Int) < (s : Int) := by omega
  clear hk hn hv hm hct hq hX hS hq1 ha hb hs
  go_enter Try.func13, Try.ntmps13
  go_wp2_with (first
    | (with_reducible refine load_b (BN.chg k3 (by simp)) 25 (.tmp 6) Try.underlying25 ?_ ?_ ?_ ?_ ?_ ?_
       · rfl
       · rfl
       · rfl
       · rfl
       · (rw [yC_size]; exact nonInfo))
    | (with_reducible refine load_b ((BK.chg k2 (by simp)).chg k3 (by simp)) 23 (.tmp 4) Try.underlying23 ?_ ?_ ?_ ?_ ?_ ?_
       · rfl
       · rfl
       · rfl
       · rfl
       · (rw [yC_size]; exact keyInfo))
    | (refine make_w rfl (.tmp 24) (.tmp 24) rfl n rfl rfl HV.out.2 ?_; intro g w3 hg BG k3)
    | (refine box_w rfl 25 _ rfl (yC 12 nn) rfl ?_; intro nb w2 hnb BN k2)
    | (refine box_w rfl 23 _ rfl (yC 32 k) rfl ?_; intro kb w1 hkb BK k1))
  refine (HBG.out w3).mono ?_
  rintro e w4 ⟨rfl, k4⟩
  have K4 : Chg w w4 [] := ((k1.trans1 k2).trans1 k3).trans1 k4
  have HG : Hid (w.heap.size ≤ g) := by have := (k1.trans1 k2).size; show w.heap.size ≤ g; omega
  have BG4 := BG.chg k4 (by simp)
  clear k1 k2 k3 k4 BK BN BG hkb hnb hg
  go_wp2_with fail
  refine (mask_s g 0 n n 5 (.slice p1 n c1) n f (fun _ => 0) S HVS.out w4 BG4 (HV.out.1.kept K4) (HV.out.1.new [g] (by have := HG.out; simpa using this)) (by omega) (by omega) (by have := HV.out.2; omega) (some ⟨g, 0, none⟩) (fun _ => rfl)).mono ?_
  rw [HKS.out, lay_all]
  rintro e w5 ⟨rfl, B5, k5⟩
  have K5 : Chg w w5 [] := K4.new k5 HG.out
  go_wp2_with fail
  go_ret2
  exact ⟨g, rfl, HG.out, B5, K5⟩
set_option maxHeartbeats 8000000 in
set_option maxRecDepth 100000 in
theorem Stream_end (k nn : Nat → Nat) (ct : Nat) (hct : V ct) (v : Value) (n : Nat) (f : Nat → Nat) (w : World) (hv : Sz w v n f) (hq : 4294967296 < ct + (n + 63) / 64) :
    Calls Try.prog 13 #[.agg (yC 32 k), .int .u32 (ct : Int), .agg (yC 12 nn), v] w fun e w' => e = .returned (.tuple #[.slice none 0 0, .int .i64 122]) ∧ Chg w w' [] := by
  have hm := hv.ln
  obtain ⟨p1, c1, e1, _⟩ := id hv
  subst e1
  obtain ⟨q, hq1⟩ : ∃ q, (n + 63) / 64 = q := ⟨_, rfl⟩
  obtain ⟨a, ha⟩ : ∃ a, n + 64 = a := ⟨_, rfl⟩
  obtain ⟨b, hb⟩ : ∃ b, n + 63 = b := ⟨_, rfl⟩
  obtain ⟨s, hs⟩ : ∃ s, ct + q = s := ⟨_, rfl⟩
  unfold V at hct
  have w1 : IntKind.u64.wrap (n : Int) = (n : Int) := by rw [IntKind.wrap_u64]; omega
  have w2 : IntKind.u64.wrap ((n : Int) + 64) = (a : Int) := by rw [IntKind.wrap_u64]; omega
  have w3 : IntKind.u64.wrap ((a : Int) - 1) = (b : Int) := by rw [IntKind.wrap_u64]; omega
  have d1 : Int.tdiv (b : Int) 64 = (q : Int) := by rw [Int.tdiv_eq_ediv_of_nonneg (by omega)]; omega
  have w4 : IntKind.u64.wrap (q : Int) = (q : Int) := by rw [IntKind.wrap_u64]; omega
  have w5 : IntKind.u64.wrap (ct : Int) = (ct : Int) := by rw [IntKind.wrap_u64]; omega
  have w6 : IntKind.u64.wrap ((ct : Int) + (q : Int)) = (s : Int) := by rw [IntKind.wrap_u64]; omega
  have hl : (4294967296 : Int) < (s : Int) := by omega
  clear hv hm hct hq hq1 ha hb hs
  go_enter Try.func13, Try.ntmps13
  go_wp2_with (first
    | (refine box_w rfl 25 _ rfl (yC 12 nn) rfl ?_; intro nb w2 hnb BN k2)
    | (refine box_w rfl 23 _ rfl (yC 32 k) rfl ?_; intro kb w1 hkb BK k1))
  go_ret2
  exact ⟨rfl, k1.trans1 k2⟩
end Go.Proofs.Ytnopkojpgemldaa
