/- rimeplain: markScalars, CopyScalars. -/
import Derived.Test.YtcdgkhejbdlapabGvG
import Derived.Test.YtcdgkhejbdlapabLsD
set_option linter.unusedVariables false
set_option linter.unusedSimpArgs false
set_option linter.unnecessarySimpa false
namespace Go.Proofs.Ytcdgkhejbdlapab
open Go.RowKit N

/-- The mark of list i at place k. -/
def mkS (i k : Nat) : Nat := i % 256 + i / 256 % 256 * 256 + k % 256 * 65536 + k / 256 % 256 * 16777216 + 77 * 4294967296
theorem five_fe (a b c d : Nat) (ha : a < 256) (hb : b < 256) (hc : c < 256) (hd : d < 256) (N : Nat) (hN : a + b * 256 + c * 65536 + d * 16777216 + 77 * 4294967296 = N) :
    #[Value.int .u8 (a : Int), .int .u8 (b : Int), .int .u8 (c : Int), .int .u8 (d : Int), .int .u8 77, .int .u8 0, .int .u8 0, .int .u8 0, .int .u8 0, .int .u8 0, .int .u8 0, .int .u8 0, .int .u8 0, .int .u8 0, .int .u8 0, .int .u8 0,
      .int .u8 0, .int .u8 0, .int .u8 0, .int .u8 0, .int .u8 0, .int .u8 0, .int .u8 0, .int .u8 0, .int .u8 0, .int .u8 0, .int .u8 0, .int .u8 0, .int .u8 0, .int .u8 0, .int .u8 0, .int .u8 0] = feC (N : Nat) := by
  have h0 : by8 (N : Int) 0 = (a : Int) := by unfold by8; omega
  have h1 : by8 (N : Int) 1 = (b : Int) := by unfold by8; omega
  have h2 : by8 (N : Int) 2 = (c : Int) := by unfold by8; omega
  have h3 : by8 (N : Int) 3 = (d : Int) := by unfold by8; omega
  have h4 : by8 (N : Int) 4 = 77 := by unfold by8; omega
  have hz : ∀ i, 5 ≤ i → by8 (N : Int) i = 0 := fun i hi => by
    unfold by8
    have e : (256 : Int) ^ i = 256 ^ 5 * 256 ^ (i - 5) := by rw [← Int.pow_add]; congr 1; omega
    have p : (1 : Int) ≤ 256 ^ (i - 5) := by have : (0 : Int) < 256 ^ (i - 5) := Int.pow_pos (by decide); omega
    have q : (N : Int) < 256 ^ i := by
      rw [e]
      have : (256 : Int) ^ 5 * 1 ≤ 256 ^ 5 * 256 ^ (i - 5) := Int.mul_le_mul_of_nonneg_left p (by decide)
      omega
    rw [Int.ediv_eq_zero_of_lt (by omega) q]
    rfl
  simp only [feC, feL, h0, h1, h2, h3, h4, hz 5 (by omega), hz 6 (by omega), hz 7 (by omega), hz 8 (by omega), hz 9 (by omega), hz 10 (by omega), hz 11 (by omega), hz 12 (by omega), hz 13 (by omega), hz 14 (by omega), hz 15 (by omega), hz 16 (by omega), hz 17 (by omega), hz 18 (by omega), hz 19 (by omega), hz 20 (by omega), hz 21 (by omega), hz 22 (by omega), hz 23 (by omega), hz 24 (by omega), hz 25 (by omega), hz 26 (by omega), hz 27 (by omega), hz 28 (by omega), hz 29 (by omega), hz 30 (by omega), hz 31 (by omega)]
theorem mkS_lt (i k : Nat) : mkS i k < 115792089237316195423570985008687907853269984665640564039457584007913129639936 := by unfold mkS; omega
theorem built5 (a b c d : Int) : Try.prog.built 23 [(0, .int .u8 a), (1, .int .u8 b), (2, .int .u8 c), (3, .int .u8 d), (4, .int .u8 77)] = some #[.int .u8 a, .int .u8 b, .int .u8 c, .int .u8 d, .int .u8 77, .int .u8 0, .int .u8 0, .int .u8 0, .int .u8 0, .int .u8 0, .int .u8 0, .int .u8 0, .int .u8 0, .int .u8 0, .int .u8 0, .int .u8 0, .int .u8 0, .int .u8 0, .int .u8 0, .int .u8 0, .int .u8 0, .int .u8 0, .int .u8 0, .int .u8 0, .int .u8 0, .int .u8 0, .int .u8 0, .int .u8 0, .int .u8 0, .int .u8 0, .int .u8 0, .int .u8 0] := by kernel_rfl
theorem wpList_build_c' {P : Program} {ops : Array Oper} {rest : List Oper} {o : Oper} {a : Act} {w : World} {Q : Exit → Act → World → Prop} (hg : o.guard = none) (t : TypeId) (parts : Array (Nat × Operand)) (ho : o.op = .build t parts)
    (cells : Array Value) (hb : P.built t (parts.map fun (i, x) => (i, a.eval x)).toList = some cells) (h : wpList P ops Q rest (a.put o.dst (.agg cells)) w) : wpList P ops Q (o :: rest) a w :=
  wpList_build hg t parts ho (by rw [hb]; rfl) (by rw [hb]; exact h)
set_option maxHeartbeats 4000000 in
set_option maxRecDepth 100000 in
theorem markScalars_s (i k : Nat) (hi : i ≤ 140737488355331) (hk : k ≤ 140737488355331) (w : World) : Calls Try.prog 83 #[.int .i64 (i : Int), .int .i64 (k : Int)] w fun x w' => x = .returned (fe (mkS i k : Nat)) ∧ Chg w w' [] := by
  have e1 : IntKind.u8.wrap (i : Int) = ((i % 256 : Nat) : Int) := by rw [IntKind.wrap_u8']; omega
  have e2 : IntKind.u8.wrap (k : Int) = ((k % 256 : Nat) : Int) := by rw [IntKind.wrap_u8']; omega
  have e3 : IntKind.u8.wrap ((i : Int) / 256) = ((i / 256 % 256 : Nat) : Int) := by rw [IntKind.wrap_u8']; omega
  have e4 : IntKind.u8.wrap ((k : Int) / 256) = ((k / 256 % 256 : Nat) : Int) := by rw [IntKind.wrap_u8']; omega
  have hf := five_fe (i % 256) (i / 256 % 256) (k % 256) (k / 256 % 256) (by omega) (by omega) (by omega) (by omega) (mkS i k) rfl
  have hb := built5 ((i % 256 : Nat) : Int) ((i / 256 % 256 : Nat) : Int) ((k % 256 : Nat) : Int) ((k / 256 % 256 : Nat) : Int)
  rw [hf] at hb
  clear hf
  obtain ⟨X, hX⟩ : ∃ X : Int, ((mkS i k : Nat) : Int) = X := ⟨_, rfl⟩
  rw [hX] at hb ⊢
  clear hX
  generalize i % 256 = a at *
  generalize i / 256 % 256 = b at *
  generalize k % 256 = c at *
  generalize k / 256 % 256 = d at *
  have F := Blk.new w z32 23
  have HB : Hid _ := hb
  clear hb
  go_enter Try.func83, Try.ntmps83
  go_wp2_with (first | (refine wpList_build_c' rfl 23 #[(0, .tmp 6), (1, .tmp 9), (2, .tmp 11), (3, .tmp 14), (4, .const (.int .u8 77))] rfl (feC X) (by go_simp; with_reducible exact HB.out) ?_) | (refine wpList_store_row rfl 23 _ _ rfl w.heap.size _ rfl rfl 23 _ F feInfo rfl (feC_one _) ?_))
  exact bodyPost_ret (results_cell_row Try.results83 _ _ w.heap.size 23 (feC X) (0, 0) _ rfl (Blk.setRow F _) Try.underlying23 rfl feInfo) rfl ⟨rfl, ((Chg.refl w []).alloc _).setRowNew (Nat.le_refl _) _⟩
theorem scRow : ∃ i, Try.prog.info? 23 = some i ∧ i.zero = some (.agg z32) ∧ i.size = 32 ∧ i.bytes = 32 := by
  have h : (Try.prog.info? 23).map (fun i => (i.zero, i.size, i.bytes)) = some (some (.agg z32), 32, 32) := by kernel_rfl
  cases hi : Try.prog.info? 23 with
  | none => rw [hi] at h; simp at h
  | some i => rw [hi] at h; simp at h; exact ⟨i, rfl, h.1, h.2.1, h.2.2⟩
/-- Rows that are numbers. -/
abbrev fR (f : Nat → Nat) : Nat → List Value := fun i => feL ((f i : Nat) : Int)
theorem feL_ok (n : Int) : (feL n).length = 32 ∧ ∀ v ∈ feL n, v.oneCell' = true := ⟨feL_len n, by intro v hv; simp [feL] at hv; rcases hv with rfl | rfl | rfl | rfl | rfl | rfl | rfl | rfl | rfl | rfl | rfl | rfl | rfl | rfl | rfl | rfl | rfl | rfl | rfl | rfl | rfl | rfl | rfl | rfl | rfl | rfl | rfl | rfl | rfl | rfl | rfl | rfl <;> rfl⟩
theorem fR_ok (m : Nat) (f : Nat → Nat) : Rok 32 m (fR f) := fun i _ => feL_ok _
theorem Fc.range' {w : World} {g o : Nat} {n : Int} (h : Fc w g o n) : w.rangeAt g o (feL n) := fun j v hv => by
  have hj : j < 32 := by
    have := (List.getElem?_eq_some_iff.1 hv).1
    rw [feL_len] at this
    exact this
  rw [h.cell j hj]
  have e := feC_get n j hj
  have e2 : (feC n)[j]? = some v := by
    have h' : (feL n).toArray[j]? = some v := by simpa using hv
    exact h'
  rw [e] at e2
  exact e2
theorem Fc.ofRange {w : World} {g o : Nat} {n : Int} (h : w.rangeAt g o (feL n)) (hg : g < w.heap.size) : Fc w g o n := ⟨hg, fun i hi => by
  have e := feC_get n i hi
  have e2 : (feL n)[i]? = some (.int .u8 (by8 n i)) := by rw [← e]; simp
  exact h i _ e2⟩
theorem Ls.rl {w : World} {v : Value} {N : Nat} {f : Nat → Nat} (h : Ls w v N f) : Rl w 32 v N (fR f) := by
  refine ⟨fR_ok N f, ?_⟩
  rcases h.2 with h2 | ⟨g, o, cap, e, h1, h2, h3, h4⟩
  · exact Or.inl h2
  · exact Or.inr ⟨g, o, cap, e, h1, h2, h3, fun i hi => (h4 i hi).range'⟩
theorem Rl.ls {w : World} {v : Value} {N : Nat} {f : Nat → Nat} (h : Rl w 32 v N (fR f)) (hf : ∀ i, i < N → f i < 115792089237316195423570985008687907853269984665640564039457584007913129639936) : Ls w v N f := by
  refine ⟨hf, ?_⟩
  rcases h.2 with h2 | ⟨g, o, cap, e, h1, h2, h3, h4⟩
  · exact Or.inl h2
  · exact Or.inr ⟨g, o, cap, e, h1, h2, h3, fun i hi => Fc.ofRange (h4 i hi) h3⟩
theorem catR_zero (F G : Nat → List Value) : catR F 0 G = G := by funext j; unfold catR; rw [if_neg (by omega), Nat.sub_zero]
set_option maxHeartbeats 4000000 in
set_option maxRecDepth 100000 in
theorem CopyScalars_s (v : Value) (n : Nat) (F : Nat → List Value) (w : World) (h0 : 0 < n) (hn : n ≤ 4398046511104) (hv : Rl w 32 v n F) :
    Calls Try.prog 29 #[v] w fun e w' => ∃ g cap, e = .returned (.slice (some ⟨g, 0, none⟩) n cap) ∧ OwnR w' w.heap.size 23 32 (.slice (some ⟨g, 0, none⟩) n cap) n F ∧ Chg w w' [] := by
  obtain ⟨inf, hinf, hz, hs1, hs2⟩ := scRow
  go_enter Try.func29, Try.ntmps29
  go_wp2_with (refine wpList_append_r rfl (.tmp 4) (.tmp 5) 52 rfl 23 inf (.agg z32) 32 32 Try.underlying52 hinf hz hs1 hs2 rfl (by omega) w.heap.size (.slice none 0 0) v 0 n F F rfl rfl (OwnR.nil _ _ _ _ F) hv h0 (by omega) (by omega) (Nat.le_refl _) ?_; intro g cap w1 O1 q1 _ _; rw [Nat.zero_add, catR_zero] at O1; rw [Nat.zero_add]; replace q1 : Chg w w1 [] := q1)
  go_ret
  exact ⟨g, cap, rfl, O1, q1⟩
/-- A number's 32 bytes loaded from within a block. -/
theorem load_fe {w : World} {ops : Array Oper} {rest : List Oper} {op : Oper} {a : Act} {Q : Exit → Act → World → Prop} (hgd : op.guard = none) (x : Operand) (ho : op.op = .load 23 x) (b o : Nat) (X : Int) (hx : a.eval x = .pointer (some ⟨b, o, none⟩)) (hc : w.rangeAt b o (feL X))
    (h : wpList Try.prog ops Q rest (a.put op.dst (fe X)) w) : wpList Try.prog ops Q (op :: rest) a w := wpList_load_mid hgd 23 x ho b o hx (feL X) _ hc Try.underlying23 rfl feInfo h
end Go.Proofs.Ytcdgkhejbdlapab
