/- Joined: WDz, WDy. -/
import Derived.Test.YtgjclegpnbjlkaaGreatDoorMxC
import Derived.Test.YtgjclegpnbjlkaaGreatDoorMxJ
import Derived.Test.YtgjclegpnbjlkaaGreatDoorWDd4
import Derived.Test.YtgjclegpnbjlkaaGreatDoorWDd5
import Derived.Test.YtgjclegpnbjlkaaGreatDoorMxI
import Derived.Test.YtgjclegpnbjlkaaGreatDoorWDxb
import Derived.Test.YtgjclegpnbjlkaaGreatDoorWDxc
import Derived.Test.YtgjclegpnbjlkaaGreatDoorWDxd
import Derived.Test.YtgjclegpnbjlkaaGreatDoorWDxe
import Derived.Test.YtgjclegpnbjlkaaGreatDoorWDxf
import Derived.Test.YtgjclegpnbjlkaaGreatDoorMwX
set_option linter.all false
namespace Go.Proofs.YtgjclegpnbjlkaaGreatDoor
open Go.RowKit
theorem first_bad (P : Nat → Prop) (h : ∀ i, P i ∨ ¬ P i) : ∀ k, (∀ i, i < k → P i) ∨ ∃ j, j < k ∧ (∀ i, i < j → P i) ∧ ¬ P j
 | 0 => Or.inl fun i hi => by omega
 | k + 1 => by
   rcases first_bad P h k with q | ⟨j, h1, h2, h3⟩
   · rcases h k with q2 | q2
     · exact Or.inl fun i hi => by
         by_cases e : i = k
         · subst e; exact q2
         · exact q i (by omega)
     · exact Or.inr ⟨k, by omega, q, q2⟩
   · exact Or.inr ⟨j, by omega, h2, h3⟩
theorem RDec (v : Value) (n : Nat) (F : Nat → Nat) (w : World) (hv : Sl w v n F) : Calls Tryz.prog 16 #[v] w fun e w' => RDq n F w e w' := by
 by_cases hb : HdG n F ∧ n = 14 + nm F 6 4
 · obtain ⟨hG, hn⟩ := hb
   rcases hv with ⟨h0, _⟩ | ⟨g, o, c, rfl, hc, hc2, hB⟩
   · omega
   have hK := hG.2.2.1
   have hA : n = 10 + nm F 6 4 + 4 := by omega
   obtain k | k | k | k | k | k : F 5 = 1 ∨ F 5 = 2 ∨ F 5 = 3 ∨ F 5 = 4 ∨ F 5 = 5 ∨ F 5 = 6 := by omega
   · exact RDec_1 g o n c _ F rfl hA hG k hc hc2 w hB
   · exact RDec_2 g o n c _ F rfl hA hG k hc hc2 w hB
   · by_cases h45 : 10 + nm F 6 4 < 45
     · exact RDec_3a g o n c _ F rfl hA hG k hc hc2 w hB h45
     rcases first_bad (fun i => prW (10 + nm F 6 4) (45 + 65 * i) (F (45 + 65 * i)) = 0) (fun i => Decidable.em _) (F 44) with hall | ⟨j, h1, h2, h3⟩
     · have ha : 45 ≤ 10 + nm F 6 4 := by omega
       by_cases h4 : 10 + nm F 6 4 < 45 + 65 * F 44 + 4
       · exact RDec_3c g o n c _ F rfl hA hG k hc hc2 w hB ⟨ha, hall, h4⟩
       by_cases hl : 1048575 < nm F (45 + 65 * F 44) 4
       · exact RDec_3d g o n c _ F rfl hA hG k hc hc2 w hB ⟨ha, hall, by omega, hl⟩
       by_cases hs : 10 + nm F 6 4 < 45 + 65 * F 44 + 4 + nm F (45 + 65 * F 44) 4
       · exact RDec_3e g o n c _ F rfl hA hG k hc hc2 w hB ⟨ha, hall, by omega, by omega, hs⟩
       by_cases ht : 45 + 65 * F 44 + 4 + nm F (45 + 65 * F 44) 4 < 10 + nm F 6 4
       · exact RDec_3f g o n c _ F rfl hA hG k hc hc2 w hB ⟨ha, hall, ht, by omega⟩
       · exact RDec_3g g o n c _ F rfl hA hG k hc hc2 w hB ⟨ha, hall, by omega, by omega⟩
     · exact RDec_3b g o n c _ F rfl hA hG k hc hc2 w hB j ⟨by omega, h1, h2, h3⟩
   · exact RDec_4 g o n c _ F rfl hA hG k hc hc2 w hB
   · exact RDec_5 g o n c _ F rfl hA hG k hc hc2 w hB
   · exact RDec_6 g o n c _ F rfl hA hG k hc hc2 w hB
 · exact RDec_bad v n F hb w hv
def hdW (n : Nat) (F : Nat → Nat) : Option (ByteArray × Nat × Nat) :=
 if n = 0 then some (sFrame, n, 3) else if F 0 ≠ mgN 0 then some (sMagic, 0, 101) else if n = 1 then some (sFrame, n, 3) else if F 1 ≠ mgN 1 then some (sMagic, 1, 101) else if n = 2 then some (sFrame, n, 3) else if F 2 ≠ mgN 2 then some (sMagic, 2, 101) else if n = 3 then some (sFrame, n, 3) else if F 3 ≠ mgN 3 then some (sMagic, 3, 101) else if n = 4 then some (sFrame, n, 3) else if F 4 ≠ 1 then some (sVersion, 4, 102) else if n = 5 then some (sFrame, n, 3) else if ¬ (1 ≤ F 5 ∧ F 5 ≤ 6) then some (sKindH, 5, 152) else if n < 10 then some (sFrame, n, 3) else if 1065189 < nm F 6 4 then some (sLength, 6, 10) else none
theorem HdP.hdW {n : Nat} {F : Nat → Nat} {s : ByteArray} {a y : Nat} (h : HdP n F s a y) : hdW n F = some (s, a, y) := by
 unfold Go.Proofs.YtgjclegpnbjlkaaGreatDoor.hdW
 rcases h with ⟨i, hi, hj, h⟩ | ⟨hj, h⟩
 · obtain e | e | e | e : i = 0 ∨ i = 1 ∨ i = 2 ∨ i = 3 := by omega
   · subst e
     rcases h with ⟨h1, rfl, ea, rfl⟩ | ⟨h1, h2, rfl, ea, rfl⟩
     · rw [ea]; rw [if_pos h1]
     · rw [ea]; rw [if_neg (show ¬ n = 0 by omega), if_pos h2]
   · subst e
     rcases h with ⟨h1, rfl, ea, rfl⟩ | ⟨h1, h2, rfl, ea, rfl⟩
     · rw [ea]; rw [if_neg (show ¬ n = 0 by omega), if_neg (show ¬ F 0 ≠ mgN 0 from fun h => h (hj 0 (by omega))), if_pos h1]
     · rw [ea]; rw [if_neg (show ¬ n = 0 by omega), if_neg (show ¬ F 0 ≠ mgN 0 from fun h => h (hj 0 (by omega))), if_neg (show ¬ n = 1 by omega), if_pos h2]
   · subst e
     rcases h with ⟨h1, rfl, ea, rfl⟩ | ⟨h1, h2, rfl, ea, rfl⟩
     · rw [ea]; rw [if_neg (show ¬ n = 0 by omega), if_neg (show ¬ F 0 ≠ mgN 0 from fun h => h (hj 0 (by omega))), if_neg (show ¬ n = 1 by omega), if_neg (show ¬ F 1 ≠ mgN 1 from fun h => h (hj 1 (by omega))), if_pos h1]
     · rw [ea]; rw [if_neg (show ¬ n = 0 by omega), if_neg (show ¬ F 0 ≠ mgN 0 from fun h => h (hj 0 (by omega))), if_neg (show ¬ n = 1 by omega), if_neg (show ¬ F 1 ≠ mgN 1 from fun h => h (hj 1 (by omega))), if_neg (show ¬ n = 2 by omega), if_pos h2]
   · subst e
     rcases h with ⟨h1, rfl, ea, rfl⟩ | ⟨h1, h2, rfl, ea, rfl⟩
     · rw [ea]; rw [if_neg (show ¬ n = 0 by omega), if_neg (show ¬ F 0 ≠ mgN 0 from fun h => h (hj 0 (by omega))), if_neg (show ¬ n = 1 by omega), if_neg (show ¬ F 1 ≠ mgN 1 from fun h => h (hj 1 (by omega))), if_neg (show ¬ n = 2 by omega), if_neg (show ¬ F 2 ≠ mgN 2 from fun h => h (hj 2 (by omega))), if_pos h1]
     · rw [ea]; rw [if_neg (show ¬ n = 0 by omega), if_neg (show ¬ F 0 ≠ mgN 0 from fun h => h (hj 0 (by omega))), if_neg (show ¬ n = 1 by omega), if_neg (show ¬ F 1 ≠ mgN 1 from fun h => h (hj 1 (by omega))), if_neg (show ¬ n = 2 by omega), if_neg (show ¬ F 2 ≠ mgN 2 from fun h => h (hj 2 (by omega))), if_neg (show ¬ n = 3 by omega), if_pos h2]
 · rcases h with ⟨h1, rfl, ea, rfl⟩ | ⟨h1, h2, rfl, ea, rfl⟩ | ⟨h4, h⟩
   · rw [ea]; rw [if_neg (show ¬ n = 0 by omega), if_neg (show ¬ F 0 ≠ mgN 0 from fun h => h (hj 0 (by omega))), if_neg (show ¬ n = 1 by omega), if_neg (show ¬ F 1 ≠ mgN 1 from fun h => h (hj 1 (by omega))), if_neg (show ¬ n = 2 by omega), if_neg (show ¬ F 2 ≠ mgN 2 from fun h => h (hj 2 (by omega))), if_neg (show ¬ n = 3 by omega), if_neg (show ¬ F 3 ≠ mgN 3 from fun h => h (hj 3 (by omega))), if_pos h1]
   · rw [ea]; rw [if_neg (show ¬ n = 0 by omega), if_neg (show ¬ F 0 ≠ mgN 0 from fun h => h (hj 0 (by omega))), if_neg (show ¬ n = 1 by omega), if_neg (show ¬ F 1 ≠ mgN 1 from fun h => h (hj 1 (by omega))), if_neg (show ¬ n = 2 by omega), if_neg (show ¬ F 2 ≠ mgN 2 from fun h => h (hj 2 (by omega))), if_neg (show ¬ n = 3 by omega), if_neg (show ¬ F 3 ≠ mgN 3 from fun h => h (hj 3 (by omega))), if_neg (show ¬ n = 4 by omega), if_pos h2]
   · rcases h with ⟨h1, rfl, ea, rfl⟩ | ⟨h1, h2, rfl, ea, rfl⟩ | ⟨h5, h⟩
     · rw [ea]; rw [if_neg (show ¬ n = 0 by omega), if_neg (show ¬ F 0 ≠ mgN 0 from fun h => h (hj 0 (by omega))), if_neg (show ¬ n = 1 by omega), if_neg (show ¬ F 1 ≠ mgN 1 from fun h => h (hj 1 (by omega))), if_neg (show ¬ n = 2 by omega), if_neg (show ¬ F 2 ≠ mgN 2 from fun h => h (hj 2 (by omega))), if_neg (show ¬ n = 3 by omega), if_neg (show ¬ F 3 ≠ mgN 3 from fun h => h (hj 3 (by omega))), if_neg (show ¬ n = 4 by omega), if_neg (show ¬ F 4 ≠ 1 from fun h => h h4), if_pos h1]
     · rw [ea]; rw [if_neg (show ¬ n = 0 by omega), if_neg (show ¬ F 0 ≠ mgN 0 from fun h => h (hj 0 (by omega))), if_neg (show ¬ n = 1 by omega), if_neg (show ¬ F 1 ≠ mgN 1 from fun h => h (hj 1 (by omega))), if_neg (show ¬ n = 2 by omega), if_neg (show ¬ F 2 ≠ mgN 2 from fun h => h (hj 2 (by omega))), if_neg (show ¬ n = 3 by omega), if_neg (show ¬ F 3 ≠ mgN 3 from fun h => h (hj 3 (by omega))), if_neg (show ¬ n = 4 by omega), if_neg (show ¬ F 4 ≠ 1 from fun h => h h4), if_neg (show ¬ n = 5 by omega), if_pos h2]
     · rcases h with ⟨h1, h2, rfl, ea, rfl⟩ | ⟨h1, h2, rfl, ea, rfl⟩
       · rw [ea]; rw [if_neg (show ¬ n = 0 by omega), if_neg (show ¬ F 0 ≠ mgN 0 from fun h => h (hj 0 (by omega))), if_neg (show ¬ n = 1 by omega), if_neg (show ¬ F 1 ≠ mgN 1 from fun h => h (hj 1 (by omega))), if_neg (show ¬ n = 2 by omega), if_neg (show ¬ F 2 ≠ mgN 2 from fun h => h (hj 2 (by omega))), if_neg (show ¬ n = 3 by omega), if_neg (show ¬ F 3 ≠ mgN 3 from fun h => h (hj 3 (by omega))), if_neg (show ¬ n = 4 by omega), if_neg (show ¬ F 4 ≠ 1 from fun h => h h4), if_neg (show ¬ n = 5 by omega), if_neg (show ¬ ¬ (1 ≤ F 5 ∧ F 5 ≤ 6) from fun h => h h5), if_pos h2]
       · rw [ea]; rw [if_neg (show ¬ n = 0 by omega), if_neg (show ¬ F 0 ≠ mgN 0 from fun h => h (hj 0 (by omega))), if_neg (show ¬ n = 1 by omega), if_neg (show ¬ F 1 ≠ mgN 1 from fun h => h (hj 1 (by omega))), if_neg (show ¬ n = 2 by omega), if_neg (show ¬ F 2 ≠ mgN 2 from fun h => h (hj 2 (by omega))), if_neg (show ¬ n = 3 by omega), if_neg (show ¬ F 3 ≠ mgN 3 from fun h => h (hj 3 (by omega))), if_neg (show ¬ n = 4 by omega), if_neg (show ¬ F 4 ≠ 1 from fun h => h h4), if_neg (show ¬ n = 5 by omega), if_neg (show ¬ ¬ (1 ≤ F 5 ∧ F 5 ≤ 6) from fun h => h h5), if_neg (show ¬ n < 10 by omega), if_pos h2]
theorem Bd3.det {A : Nat} {F : Nat → Nat} {s s' : ByteArray} {a y a' y' : Nat} (h : Bd3 A F s a y) (h' : Bd3 A F s' a' y') : s = s' ∧ a = a' ∧ y = y' := by
 rcases h with ⟨h, rfl, rfl, rfl⟩ | ⟨h, g, rfl, rfl, rfl⟩ | ⟨h, g, rfl, rfl, rfl⟩ | ⟨h, g, rfl, rfl, rfl⟩ | ⟨h, j, hj, hall, hbad, rfl, rfl, rfl⟩ | ⟨h, hall, q⟩
 · rcases h' with ⟨_, rfl, rfl, rfl⟩ | ⟨k, _⟩ | ⟨k, _⟩ | ⟨k, _⟩ | ⟨k, _⟩ | ⟨k, _⟩
   · exact ⟨rfl, rfl, rfl⟩
   all_goals omega
 · rcases h' with ⟨k, _⟩ | ⟨_, _, rfl, rfl, rfl⟩ | ⟨k, _⟩ | ⟨k, _⟩ | ⟨k, _⟩ | ⟨k, _⟩
   · omega
   · exact ⟨rfl, rfl, rfl⟩
   all_goals omega
 · rcases h' with ⟨k, _⟩ | ⟨_, k, _⟩ | ⟨_, _, rfl, rfl, rfl⟩ | ⟨k, _⟩ | ⟨k, _⟩ | ⟨k, _⟩
   · omega
   · omega
   · exact ⟨rfl, rfl, rfl⟩
   all_goals omega
 · rcases h' with ⟨k, _⟩ | ⟨_, k, _⟩ | ⟨_, k, _⟩ | ⟨_, _, rfl, rfl, rfl⟩ | ⟨k, _⟩ | ⟨k, _⟩
   · omega
   · omega
   · omega
   · exact ⟨rfl, rfl, rfl⟩
   all_goals omega
 · rcases h' with ⟨k, _⟩ | ⟨_, k, _⟩ | ⟨_, k, _⟩ | ⟨_, k, _⟩ | ⟨_, j', hj', hall', hbad', rfl, rfl, rfl⟩ | ⟨_, hall', _⟩
   · omega
   · omega
   · omega
   · omega
   · have e : j = j' := by
       rcases Nat.lt_trichotomy j j' with q | q | q
       · exact absurd (hall' j q) hbad
       · exact q
       · exact absurd (hall j' q) hbad'
     subst e
     exact ⟨rfl, rfl, rfl⟩
   · exact absurd (hall' j hj) hbad
 · rcases h' with ⟨k, _⟩ | ⟨_, k, _⟩ | ⟨_, k, _⟩ | ⟨_, k, _⟩ | ⟨_, j', hj', hall', hbad', rfl, rfl, rfl⟩ | ⟨_, hall', q'⟩
   · omega
   · omega
   · omega
   · omega
   · exact absurd (hall j' hj') hbad'
   · rcases q with ⟨rfl, rfl, q⟩ | ⟨g1, g2, rfl, rfl, rfl⟩
     · rcases q' with ⟨rfl, rfl, q'⟩ | ⟨g1, g2, rfl, rfl, rfl⟩
       · refine ⟨rfl, rfl, ?_⟩
         rcases q with ⟨_, rfl⟩ | ⟨_, _, rfl⟩ | ⟨_, _, _, rfl⟩ <;> rcases q' with ⟨_, rfl⟩ | ⟨_, _, rfl⟩ | ⟨_, _, _, rfl⟩ <;> first | rfl | omega
       · omega
     · rcases q' with ⟨rfl, rfl, q'⟩ | ⟨_, _, rfl, rfl, rfl⟩
       · omega
       · exact ⟨rfl, rfl, rfl⟩
theorem BdP.det {A : Nat} {F : Nat → Nat} {K : Nat} {s s' : ByteArray} {a y a' y' : Nat} (h : BdP A F K s a y) (h' : BdP A F K s' a' y') : s = s' ∧ a = a' ∧ y = y' := by
 unfold BdP at h h'
 by_cases hK : K = 3
 · rw [if_pos hK] at h h'
   exact h.det h'
 · rw [if_neg hK] at h h'
   have q := h.symm.trans h'
   simp only [Option.some.injEq, Prod.mk.injEq] at q
   exact q
theorem FrP.det {n : Nat} {F : Nat → Nat} {s s' : ByteArray} {a y a' y' : Nat} (h : FrP n F s a y) (h' : FrP n F s' a' y') : s = s' ∧ a = a' ∧ y = y' := by
 rcases h with h | ⟨hG, h⟩
 · rcases h' with h' | ⟨hG', _⟩
   · have q := h.hdW.symm.trans h'.hdW
     simp only [Option.some.injEq, Prod.mk.injEq] at q
     exact q
   · exact absurd h hG'.noP
 · rcases h' with h' | ⟨_, h'⟩
   · exact absurd h' hG.noP
   · rcases h with ⟨k, rfl, rfl, rfl⟩ | ⟨k, rfl, rfl, rfl⟩ | ⟨k, h⟩
     · rcases h' with ⟨_, rfl, rfl, rfl⟩ | ⟨j, _⟩ | ⟨j, _⟩
       · exact ⟨rfl, rfl, rfl⟩
       all_goals omega
     · rcases h' with ⟨j, _⟩ | ⟨_, rfl, rfl, rfl⟩ | ⟨j, _⟩
       · omega
       · exact ⟨rfl, rfl, rfl⟩
       · omega
     · rcases h' with ⟨j, _⟩ | ⟨j, _⟩ | ⟨_, h'⟩
       · omega
       · omega
       · rcases h with ⟨e, rfl, rfl, rfl⟩ | ⟨e, h⟩
         · rcases h' with ⟨_, rfl, rfl, rfl⟩ | ⟨e', _⟩
           · exact ⟨rfl, rfl, rfl⟩
           · rw [e] at e'; cases e'
         · rcases h' with ⟨e', _⟩ | ⟨_, h'⟩
           · rw [e] at e'; cases e'
           · exact h.det h'
theorem FrR.noP {n : Nat} {F : Nat → Nat} {B : Nat} {M : Ms} {w : World} (h : FrR n F B M w) {s : ByteArray} {a y : Nat} : ¬ FrP n F s a y := by
 obtain ⟨hG, hn, he, hb⟩ := h
 rintro (h | ⟨_, ⟨k, _⟩ | ⟨k, _⟩ | ⟨_, ⟨e, _⟩ | ⟨_, q⟩⟩⟩)
 · exact hG.noP h
 · omega
 · omega
 · rw [he] at e; cases e
 · unfold BdP at q
   unfold BdR at hb
   by_cases hK : F 5 = 3
   · rw [if_pos hK] at q hb
     exact hb.1.noP q
   · rw [if_neg hK] at q hb
     rw [hb.1] at q
     cases q
theorem eqM_same (m : Ms) (N : Nat) (d : Nat → Int) (h b : Nat → Nat → Nat) (M : Nat) (ft : Nat → Nat) (l l' t t' : Value) : eqM { m with list := l, text := t } N d h b M ft { m with list := l', text := t' } N d h b M ft = true := by
 rw [eqM_iff]
 refine ⟨beq_self_eq_true _, eqnW_self _ _, beq_self_eq_true _, beq_self_eq_true _, (eqCm_iff _ _ _ _ _ _).2 ⟨rfl, fun _ _ => rfl, fun _ _ => rfl⟩, (eqCl_iff _ _ _ _ _ _ _ _).2 ⟨rfl, fun i _ => (eqCm_iff _ _ _ _ _ _).2 ⟨rfl, fun _ _ => rfl, fun _ _ => rfl⟩⟩, (eqB_iff _ _ _ _).2 ⟨rfl, fun _ _ => rfl⟩, eqnW_self _ _, eqnW_self _ _, eqnW_self _ _, beq_self_eq_true _⟩
theorem rdM_nil (F : Nat → Nat) (K : Nat) : (rdM F K).list = .slice none 0 0 ∧ (rdM F K).text = .slice none 0 0 := by
 unfold rdM
 repeat' split
 all_goals exact ⟨rfl, rfl⟩
theorem ownR_cl {w : World} {B : Nat} {v : Value} {N : Nat} {F : Nat → Nat} {a : Nat} (h : OwnR w B 27 65 v N (lsF F a)) (hF : ∀ i, F i < 256) : Cl w v N (fun i => ((F (a + 65 * i) : Nat) : Int)) (fun i j => F (a + 65 * i + 1 + j)) (fun i j => F (a + 65 * i + 33 + j)) :=
 ⟨h.rl, fun j _ i _ => ⟨hF _, hF _⟩⟩
theorem Same_fr {n : Nat} {F : Nat → Nat} {B B' : Nat} {M M' : Ms} (w : World) (hF : ∀ i, F i < 256) (h : FrR n F B M w) (h' : FrR n F B' M' w) :
   Calls Tryz.prog 19 #[.agg (msC M), .agg (msC M')] w fun e w' => e = .returned (.bool true) ∧ Chg w w' [] := by
 obtain ⟨_, _, _, hb⟩ := h
 obtain ⟨_, _, _, hb'⟩ := h'
 unfold BdR at hb hb'
 by_cases hK : F 5 = 3
 · rw [if_pos hK] at hb hb'
   obtain ⟨_, vl, vt, rfl, h1, h2⟩ := hb
   obtain ⟨_, vl', vt', rfl, h1', h2'⟩ := hb'
   exact SameMsg_t _ (F 44) _ _ _ _ _ _ (F 44) _ _ _ _ _ w (ownR_cl h1 hF) h2.sl.zb (ownR_cl h1' hF) h2'.sl.zb (eqM_same (rd0 F 3) _ _ _ _ _ _ vl vl' vt vt')
 · rw [if_neg hK] at hb hb'
   rw [hb.2, hb'.2]
   obtain ⟨e1, e2⟩ := rdM_nil F (F 5)
   have hc : Cl w (rdM F (F 5)).list 0 (fun _ => 0) (fun _ _ => 0) (fun _ _ => 0) := by rw [e1]; exact ⟨⟨cF_ok 0 _ _ _, Or.inl ⟨rfl, rfl⟩⟩, fun i hi => by omega⟩
   have ht : Zb w (rdM F (F 5)).text 0 (fun _ => 0) := by rw [e2]; exact Sl.zb (Or.inl ⟨rfl, rfl⟩)
   exact SameMsg_t _ 0 _ _ _ 0 _ _ 0 _ _ _ 0 _ w hc ht hc ht (eqM_same (rdM F (F 5)) 0 _ _ _ 0 _ _ _ _ _)
end Go.Proofs.YtgjclegpnbjlkaaGreatDoor

set_option linter.all false
namespace Go.Proofs.YtgjclegpnbjlkaaGreatDoor
open Go.RowKit
def FtL (n : Nat) (s : ByteArray) (a y : Nat) : Prop := s.size ≤ 1000 ∧ s.toList ≠ s0E.toList ∧ a ≤ n + 200 ∧ y ≤ 255
theorem ftl {n : Nat} {s : ByteArray} {a y : Nat} (hs : s.size ≤ 1000) (h0 : s.data.toList ≠ []) (ha : a ≤ n + 200) (hy : y ≤ 255) : FtL n s a y := ⟨hs, ne_s0 h0, ha, hy⟩
theorem HdP.le {n : Nat} {F : Nat → Nat} {s : ByteArray} {a y : Nat} (h : HdP n F s a y) : FtL n s a y := by
 rcases h with ⟨i, hi, _, ⟨h1, rfl, h2, rfl⟩ | ⟨h1, _, rfl, h2, rfl⟩⟩ | ⟨_, ⟨h1, rfl, h2, rfl⟩ | ⟨h1, _, rfl, h2, rfl⟩ | ⟨_, ⟨h1, rfl, h2, rfl⟩ | ⟨h1, _, rfl, h2, rfl⟩ | ⟨_, ⟨h1, _, rfl, h2, rfl⟩ | ⟨h1, _, rfl, h2, rfl⟩⟩⟩⟩ <;> exact ftl (by decide) (List.cons_ne_nil _ _) (by omega) (by omega)
theorem prW_le (n a x : Nat) : prW n a x ≤ 4 := by
  unfold prW
  split
  · omega
  · split <;> omega
theorem tlW_le {n p : Nat} {s : ByteArray} {a y : Nat} (hp : p ≤ 200) (h : tlW n p = some (s, a, y)) : FtL n s a y := by
 unfold tlW at h
 split at h
 · simp only [Option.some.injEq, Prod.mk.injEq] at h
   obtain ⟨rfl, rfl, rfl⟩ := h
   exact ftl (by decide) (List.cons_ne_nil _ _) (by omega) (by omega)
 · cases h
theorem some_le {n p q : Nat} {t s : ByteArray} {a y : Nat} (ht : t.size ≤ 1000) (h0 : t.data.toList ≠ []) (hp : p ≤ 200) (hq : q ≤ 255) (h : (some (t, p, q) : Option (ByteArray × Nat × Nat)) = some (s, a, y)) : FtL n s a y := by
 simp only [Option.some.injEq, Prod.mk.injEq] at h
 obtain ⟨rfl, rfl, rfl⟩ := h
 exact ftl ht h0 (by omega) hq
theorem bdW_le {n : Nat} {F : Nat → Nat} {K : Nat} {s : ByteArray} {a y : Nat} (h : bdW n F K = some (s, a, y)) : FtL n s a y := by
 have hp := prW_le n 44 (F 44)
 unfold bdW at h
 repeat' split at h
 all_goals first
   | exact tlW_le (by omega) h
   | exact some_le (by decide) (List.cons_ne_nil _ _) (by omega) (by omega) h
theorem Bd3.le {n : Nat} {F : Nat → Nat} {s : ByteArray} {a y : Nat} (h : Bd3 n F s a y) : FtL n s a y := by
 rcases h with ⟨h, rfl, rfl, rfl⟩ | ⟨h, g, rfl, rfl, rfl⟩ | ⟨h, g, rfl, rfl, rfl⟩ | ⟨h, g, rfl, rfl, rfl⟩ | ⟨h, j, hj, hall, hbad, rfl, rfl, rfl⟩ | ⟨h, hall, q⟩
 · exact ftl (by decide) (List.cons_ne_nil _ _) (by omega) (by omega)
 · exact ftl (by decide) (List.cons_ne_nil _ _) (by omega) (by omega)
 · exact ftl (by decide) (List.cons_ne_nil _ _) (by omega) (by omega)
 · exact ftl (by decide) (List.cons_ne_nil _ _) (by omega) (by omega)
 · have q := all_le h hall
   have p := prW_le n (45 + 65 * j) (F (45 + 65 * j))
   exact ftl (by decide) (List.cons_ne_nil _ _) (by omega) (by omega)
 · have p := all_le h hall
   rcases q with ⟨rfl, rfl, ⟨_, rfl⟩ | ⟨_, _, rfl⟩ | ⟨_, _, _, rfl⟩⟩ | ⟨_, g, rfl, rfl, rfl⟩ <;> exact ftl (by decide) (List.cons_ne_nil _ _) (by omega) (by omega)
theorem FrP.le {n : Nat} {F : Nat → Nat} {s : ByteArray} {a y : Nat} (h : FrP n F s a y) : FtL n s a y := by
 rcases h with h | ⟨_, ⟨_, rfl, h2, rfl⟩ | ⟨_, rfl, h2, rfl⟩ | ⟨k, ⟨_, rfl, h2, rfl⟩ | ⟨_, h⟩⟩⟩
 · exact h.le
 · exact ftl (by decide) (List.cons_ne_nil _ _) (by omega) (by omega)
 · exact ftl (by decide) (List.cons_ne_nil _ _) (by omega) (by omega)
 · exact ftl (by decide) (List.cons_ne_nil _ _) (by omega) (by omega)
 · unfold BdP at h
   have q : FtL (10 + nm F 6 4) s a y := by
     split at h
     · exact h.le
     · exact bdW_le h
   exact ⟨q.1, q.2.1, by have := q.2.2.1; omega, q.2.2.2⟩
def clF (n : Nat) (F : Nat → Nat) : Nat → Nat := fun i => if i < n then F i else 0
theorem Sl.clip {w : World} {v : Value} {n : Nat} {F : Nat → Nat} (h : Sl w v n F) : Sl w v n (clF n F) ∧ ∀ i, clF n F i < 256 := by
 have hf := sl_lt h
 have hl : ∀ i, clF n F i < 256 := fun i => by
   unfold clF
   by_cases hi : i < n
   · rw [if_pos hi]; exact hf i hi
   · rw [if_neg hi]; omega
 refine ⟨?_, hl⟩
 rcases h with h | ⟨g, o, c, e, h1, h2, hB⟩
 · exact Or.inl h
 · exact Or.inr ⟨g, o, c, e, h1, h2, hB.lt, fun i _ => hl i, fun i hi => by rw [hB.cell i hi]; unfold clF; rw [if_pos hi]⟩
theorem Decode_x (v : Value) (n : Nat) (F : Nat → Nat) (w : World) (hG : Gl w) (hS : Sl w v n F) : Calls Tryz.prog 15 #[v] w fun e w' => DcQ (FrP n F) (FrR n F) w.heap.size e w' ∧ Chg w w' [] := by
 rcases hS with ⟨rfl, rfl⟩ | ⟨g, o, c, rfl, hc, hc2, hB⟩
 · refine (Decode_none none 0 w).mono ?_
   rintro e w' ⟨⟨fv, rfl, hf⟩, k⟩
   exact ⟨Or.inl ⟨sFrame, 0, 3, Or.inl (Or.inl ⟨0, by omega, fun j hj => by omega, Or.inl ⟨rfl, rfl, rfl, rfl⟩⟩), fv, rfl, hf⟩, k⟩
 · exact Decode_s g o n c F hc hc2 w hG hB
theorem Peek_x (v : Value) (n : Nat) (F : Nat → Nat) (w : World) (hS : Sl w v n F) : Calls Tryz.prog 17 #[v] w fun e w' => PeekP (HdG n F) (HdP n F) (F 5) (14 + nm F 6 4) w.heap.size e w' ∧ Chg w w' [] := by
 rcases hS with ⟨rfl, rfl⟩ | ⟨g, o, c, rfl, hc, hc2, hB⟩
 · refine (Peek_none none 0 w).mono ?_
   rintro e w' ⟨⟨fv, rfl, hf⟩, k⟩
   exact ⟨Or.inl ⟨fun hG => by have := hG.2.2.2.1; omega, sFrame, 0, 3, Or.inl ⟨0, by omega, fun j hj => by omega, Or.inl ⟨rfl, rfl, rfl, rfl⟩⟩, fv, rfl, hf⟩, k⟩
 · exact Peek_s g o n c F hc hc2 w hB
theorem HdP.det {n : Nat} {F : Nat → Nat} {s s' : ByteArray} {a y a' y' : Nat} (h : HdP n F s a y) (h' : HdP n F s' a' y') : s = s' ∧ a = a' ∧ y = y' := by
 have q := h.hdW.symm.trans h'.hdW
 simp only [Option.some.injEq, Prod.mk.injEq] at q
 exact q
end Go.Proofs.YtgjclegpnbjlkaaGreatDoor
