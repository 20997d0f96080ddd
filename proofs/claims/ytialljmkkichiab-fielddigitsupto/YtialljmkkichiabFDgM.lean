/- FieldDigits: numbers of bytes one behind the other; five limbs by steps. -/
import Derived.Test.YtialljmkkichiabRdc
import Derived.Test.YtialljmkkichiabPower
import Derived.Test.YtialljmkkichiabBytC
import Derived.Test.YtialljmkkichiabFun6
import Derived.Test.YtialljmkkichiabFun3
import Derived.Great.BuildSlice
set_option linter.unusedVariables false
set_option linter.unusedSimpArgs false
set_option linter.unnecessarySimpa false
namespace Go.Proofs.Ytialljmkkichiab
section
open Go.RowKit N

theorem nb_same (f g : Nat → Nat) : ∀ (m k j : Nat), (∀ i, i < m → f (k + i) = g (j + i)) → nb f k m = nb g j m
  | 0, _, _, _ => rfl
  | m + 1, k, j, h => by
    rw [nb_succ, nb_succ, nb_same f g m (k + 1) (j + 1) (fun i hi => by have := h (i + 1) (by omega); rw [show k + 1 + i = k + (i + 1) by omega, show j + 1 + i = j + (i + 1) by omega]; exact this)]
    have := h 0 (by omega)
    simp only [Nat.add_zero] at this
    rw [this]
theorem nb_cat (f g : Nat → Nat) (n m : Nat) : nb (cat f n g) 0 (n + m) = nb f 0 n + 256 ^ n * nb g 0 m := by
  rw [nb_add, nb_same (cat f n g) f n 0 0 (fun i hi => by unfold cat; rw [Nat.zero_add, if_pos hi]), nb_same (cat f n g) g m (0 + n) 0 (fun i hi => by unfold cat; rw [if_neg (by omega)]; congr 1; omega)]
/-- The four lowest bytes of a number. -/
def b4 (e : Nat) (i : Nat) : Nat := e / 256 ^ i % 256
theorem nb_b4 (e : Nat) (h : e < 4294967296) : nb (b4 e) 0 4 = e := by
  show b4 e 0 + 256 * (b4 e 1 + 256 * (b4 e 2 + 256 * (b4 e 3 + 256 * 0))) = e
  simp only [b4]
  omega
theorem pw_two (n : Nat) : pw 2 (n * 8) = ((256 ^ n : Nat) : Int) % P := by
  unfold pw
  rw [Nat.mul_comm, Int.pow_mul, Int.natCast_pow]
  rfl
theorem digits_eq (n m : Nat) (f g : Nat → Nat) : ((nb (cat f n g) 0 (n + m) : Nat) : Int) % P = (((nb f 0 n : Nat) : Int) % P + ((nb g 0 m : Nat) : Int) % P * pw 2 (n * 8) % P) % P := by
  rw [nb_cat, pw_two, ← Int.mul_emod, ← Int.add_emod]
  rw [Int.natCast_add, Int.natCast_mul, Int.mul_comm ((256 ^ n : Nat) : Int)]
theorem limb_step (s v x : Int) (h : s % P = v % P) : (s * 2251799813685248 % P + x) % P = (v * 2251799813685248 + x) % P := by
  have e : s * 2251799813685248 % P = v * 2251799813685248 % P := by rw [Int.mul_emod, h, ← Int.mul_emod]
  rw [e, Int.emod_add_emod]
theorem limb_sum (l0 l1 l2 l3 l4 : Int) : V l0 l1 l2 l3 l4 = ((((0 * 2251799813685248 + l4) * 2251799813685248 + l3) * 2251799813685248 + l2) * 2251799813685248 + l1) * 2251799813685248 + l0 := by
  unfold V
  omega
theorem sl_formd {w : World} {v : Value} {n : Nat} {f : Nat → Nat} (h : Sl w v n f) : ∃ p c, v = .slice p n c := by
  rcases h with ⟨rfl, rfl⟩ | ⟨g, o, cap, rfl, _⟩
  · exact ⟨_, _, rfl⟩
  · exact ⟨_, _, rfl⟩
/-- field.Reduce of bytes or of nil. -/
theorem Reduce_sl (v : Value) (n : Nat) (f : Nat → Nat) (w : World) (h : Sl w v n f) : Calls Try.prog 27 #[v] w fun e w' => e = .returned (fe (((nb f 0 n : Nat) : Int) % P)) ∧ Chg w w' [] := by
  rcases h with ⟨rfl, rfl⟩ | ⟨g, o, cap, rfl, h1, h2, hb⟩
  · exact Reduce_nil w
  · exact Reduce_fe g o n cap f h1 h2 w hb
/-- The sum behind k steps. -/
def hs (l : Nat → Nat) : Nat → Int
  | 0 => 0
  | k + 1 => hs l k * 2251799813685248 + (l (4 - k) : Int)
theorem hs_step (l : Nat → Nat) (k : Nat) : (hs l k % P * 2251799813685248 % P + (l (4 - k) : Int)) % P = hs l (k + 1) % P := limb_step _ _ _ (Int.emod_emod_of_dvd _ (Int.dvd_refl P))
theorem hs_all (l : Nat → Nat) : hs l 5 = V (l 0) (l 1) (l 2) (l 3) (l 4) := by rw [limb_sum]; rfl
theorem fill_b4 (a b c d : Int) : Instr.fill (fun i => some (i * 1, 1)) ((Array.range (4 * 1)).map ((Value.int .u8 0).cells[· % (Value.int .u8 0).cells.size]!)) [(0, .int .u8 a), (1, .int .u8 b), (2, .int .u8 c), (3, .int .u8 d)] = some #[.int .u8 a, .int .u8 b, .int .u8 c, .int .u8 d] := by kernel_rfl
/-- A slice of four bytes made. -/
theorem build_b4 {w : World} {ops : Array Oper} {rest : List Oper} {op : Oper} {a : Act} {Q : Exit → Act → World → Prop} (hg : op.guard = none) (x y z u : Operand) (ho : op.op = .buildSlice 32 4 #[(0, x), (1, y), (2, z), (3, u)]) (e : Nat)
    (hx : a.eval x = .int .u8 (b4 e 0 : Int)) (hy : a.eval y = .int .u8 (b4 e 1 : Int)) (hz : a.eval z = .int .u8 (b4 e 2 : Int)) (hu : a.eval u = .int .u8 (b4 e 3 : Int))
    (h : wpList Try.prog ops Q rest (a.put op.dst (.slice (some ⟨w.heap.size, 0, none⟩) 4 4)) (w.alloc (.cells (yC 4 (b4 e)) 5))) : wpList Try.prog ops Q (op :: rest) a w := by
  obtain ⟨inf, hinf, hz0, hs1, hs2⟩ := u8Row
  refine wpList_buildSlice hg 32 5 4 #[(0, x), (1, y), (2, z), (3, u)] ho (yC 4 (b4 e)) inf (.int .u8 0) Try.underlying32 hinf hz0 (by rw [hs1]; decide) (by rw [hs1]; decide) ?_ h
  rw [hs1]
  simp only [List.map_toArray, List.map_cons, List.map_nil, hx, hy, hz, hu]
  exact fill_b4 _ _ _ _
theorem Power_b4 (g : Nat) (e : Nat) (he : e < 4294967296) (w : World) (h : Blk w g (yC 4 (b4 e)) 5) : Calls Try.prog 17 #[fe 2, .slice (some ⟨g, 0, none⟩) 4 4] w fun x w' => x = .returned (fe (pw 2 e)) ∧ Chg w w' [] := by
  have q := Power_fe 2 (by unfold R256; decide) g 0 4 4 (yC 4 (b4 e)) 5 (b4 e) (fun i _ => Nat.mod_lt _ (by decide)) (fun i hi => by rw [Nat.zero_add]; exact yC_get 4 _ i hi) (by decide) w h
  rw [nb_b4 e he] at q
  exact q
end
end Go.Proofs.Ytialljmkkichiab
