import Derived.Test.YtgjclegpnbjlkaaGreatDoorMwI
import Derived.Test.YtgjclegpnbjlkaaGreatDoorMwW
set_option linter.all false
namespace Go.Proofs.YtgjclegpnbjlkaaGreatDoor
open Go.RowKit
theorem HdG.noP {n : Nat} {F : Nat → Nat} (hG : HdG n F) {s : ByteArray} {a y : Nat} : ¬ HdP n F s a y := by
 intro h
 obtain ⟨g1, g2, g3, g4, g5⟩ := hG
 rcases h with ⟨i, hi, _, ⟨h1, _⟩ | ⟨h1, h2, _⟩⟩ | ⟨_, ⟨h1, _⟩ | ⟨_, h1, _⟩ | ⟨_, ⟨h1, _⟩ | ⟨_, h1, _⟩ | ⟨_, ⟨_, h1, _⟩ | ⟨_, h1, _⟩⟩⟩⟩
 · omega
 · exact absurd (g1 i hi) h2
 · omega
 · exact absurd g2 h1
 · omega
 · exact absurd g3 h1
 · omega
 · omega
theorem Pk3.noP {n : Nat} {F : Nat → Nat} (h : Pk3 n F) {s : ByteArray} {a y : Nat} : ¬ Bd3 n F s a y := by
 obtain ⟨⟨h1, h2⟩, h3, h4⟩ := h
 rintro (⟨q, _⟩ | ⟨_, q, _⟩ | ⟨_, q, _⟩ | ⟨_, q, _⟩ | ⟨_, j, q1, _, q2, _⟩ | ⟨_, _, ⟨_, q0, ⟨q, _⟩ | ⟨_, q, _⟩ | ⟨_, _, q, _⟩⟩ | ⟨_, q, _⟩⟩)
 · omega
 · omega
 · omega
 · omega
 · exact q2 (h2 j q1)
 · omega
 · subst q0; omega
 · subst q0; omega
 · omega
end Go.Proofs.YtgjclegpnbjlkaaGreatDoor
