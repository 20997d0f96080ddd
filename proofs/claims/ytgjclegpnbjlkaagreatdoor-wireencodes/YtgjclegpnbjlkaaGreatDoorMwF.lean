/- Joined: W44, W45, W46, W47. -/
import Derived.Test.YtgjclegpnbjlkaaGreatDoorMwI
import Derived.Test.YtgjclegpnbjlkaaGreatDoorMwW
/- wire: an encoded frame has a good head and the right sum. -/
set_option linter.unusedVariables false
set_option linter.unusedSimpArgs false
set_option linter.unnecessarySimpa false
namespace Go.Proofs.YtgjclegpnbjlkaaGreatDoor
open Go.RowKit

theorem frB_lo (k n : Nat) (F : Nat → Nat) (i : Nat) (hi : i < 10 + n) : frB k n F i = fwB k n F i := if_pos (by omega)
theorem frB_hi (k n : Nat) (F : Nat → Nat) (j : Nat) : frB k n F (10 + n + j) = sha (fwB k n F) (10 + n) j := by
  show (if 10 + n + j < 4 + 2 + 4 + n then _ else sha (fwB k n F) (4 + 2 + 4 + n) (10 + n + j - (4 + 2 + 4 + n))) = _
  rw [if_neg (by omega), show 10 + n + j - (4 + 2 + 4 + n) = j by omega, show 4 + 2 + 4 + n = 10 + n by omega]
theorem frB_sum (k n : Nat) (F : Nat → Nat) (j : Nat) : frB k n F (10 + n + j) = sha (frB k n F) (10 + n) j := by
  rw [frB_hi, sha_congr (fun i hi => frB_lo k n F i hi)]
theorem frB_he (k n : Nat) (F : Nat → Nat) (i : Nat) (hi : i < 10) : frB k n F i = heB k n i := by
  rw [frB_lo _ _ _ _ (by omega)]
  exact if_pos (by omega)
theorem frB_body (k n : Nat) (F : Nat → Nat) (j : Nat) (hj : j < n) : frB k n F (10 + j) = F j := by
  rw [frB_lo _ _ _ _ (by omega)]
  show (if 10 + j < 4 + 2 + 4 then _ else F (10 + j - (4 + 2 + 4))) = F j
  rw [if_neg (by omega), show 10 + j - (4 + 2 + 4) = j by omega]
theorem frB_mg (k n : Nat) (F : Nat → Nat) (i : Nat) (hi : i < 4) : frB k n F i = mgN i := by
  have h : i = 0 ∨ i = 1 ∨ i = 2 ∨ i = 3 := by omega
  rcases h with rfl | rfl | rfl | rfl <;> (rw [frB_he _ _ _ _ (by omega)]; rfl)
theorem frB_len (k n : Nat) (F : Nat → Nat) (hn : n < 4294967296) : nm (frB k n F) 6 4 = n := by
  show ((((0 * 256 + frB k n F 6) * 256 + frB k n F 7) * 256 + frB k n F 8) * 256 + frB k n F 9) = n
  rw [frB_he _ _ _ _ (by omega), frB_he _ _ _ _ (by omega), frB_he _ _ _ _ (by omega), frB_he _ _ _ _ (by omega)]
  show ((((0 * 256 + b4 n 0) * 256 + b4 n 1) * 256 + b4 n 2) * 256 + b4 n 3) = n
  show ((((0 * 256 + n / 16777216 % 256) * 256 + n / 65536 % 256) * 256 + n / 256 % 256) * 256 + n % 256) = n
  omega
theorem frB_HdG (k n N : Nat) (F : Nat → Nat) (hk : 1 ≤ k ∧ k ≤ 6) (hn : n ≤ 1065189) (hN : 10 ≤ N) : HdG N (frB k n F) := by
  refine ⟨fun j hj => frB_mg k n F j hj, ?_, ?_, hN, ?_⟩
  · rw [frB_he _ _ _ _ (by omega)]; rfl
  · rw [frB_he _ _ _ _ (by omega)]; exact hk
  · rw [frB_len _ _ _ (by omega)]; exact hn
theorem frB_eqn (k n : Nat) (F : Nat → Nat) (hn : n < 4294967296) : eqnW 4 (sha (frB k n F) (10 + nm (frB k n F) 6 4)) (fun j => frB k n F (10 + nm (frB k n F) 6 4 + j)) = true := by
  rw [frB_len k n F hn]
  exact (eqnW_iff _ _ _).2 fun i _ => (frB_sum k n F i).symm
theorem enN_le2 (m : Ms) (N : Nat) (d : Nat → Int) (M : Nat) (hg : EnG m N d M) : enN m N M ≤ 1065189 := by
  unfold enN
  repeat' split
  all_goals first
    | omega
    | (have g := hg.2.2.2.2.1 (by assumption); omega)
end Go.Proofs.YtgjclegpnbjlkaaGreatDoor

/- wire: an encoded frame has no fault. -/
namespace Go.Proofs.YtgjclegpnbjlkaaGreatDoor
open Go.RowKit

theorem HdG.noP {n : Nat} {F : Nat → Nat} (hG : HdG n F) {s : ByteArray} {a y : Nat} : ¬ HdP n F s a y := by
  intro h
  obtain ⟨g1, g2, g3, g4, g5⟩ := hG
  rcases h with ⟨i, hi, _, ⟨h1, _⟩ | ⟨h1, h2, _⟩⟩ | ⟨_, ⟨h1, _⟩ | ⟨_, h1, _⟩ | ⟨_, ⟨h1, _⟩ | ⟨_, h1, _⟩ | ⟨_, ⟨_, h1, _⟩ | ⟨_, h1, _⟩⟩⟩⟩
  · omega
  · exact absurd (g1 i hi) h2
  · omega
  · exact absurd g2 h1
  · omega
  · exact absurd g3 h1
  · omega
  · omega
theorem catAtW (u : Nat → Nat) (n : Nat) (v : Nat → Nat) (j : Nat) : cat u n v (n + j) = v j := by
  show (if n + j < n then _ else v (n + j - n)) = _
  rw [if_neg (by omega), Nat.add_sub_cancel_left]
theorem catLtW (u : Nat → Nat) (n : Nat) (v : Nat → Nat) (j : Nat) (hj : j < n) : cat u n v j = u j := if_pos hj
theorem en_kind (m : Ms) (N : Nat) (d : Nat → Int) (M : Nat) (hg : EnG m N d M) : m.kind = 1 ∨ m.kind = 2 ∨ m.kind = 3 ∨ m.kind = 4 ∨ m.kind = 5 ∨ m.kind = 6 := by
  have := hg.1
  unfold okKind at this
  omega
/-- The body of an encoded message, at the place p of its body. -/
theorem en_at (m : Ms) (N : Nat) (d : Nat → Int) (h b : Nat → Nat → Nat) (M : Nat) (ft : Nat → Nat) (j : Nat) (hj : j < enN m N M) : frB m.kind.toNat (enN m N M) (enF m N d h b M ft) (10 + j) = enF m N d h b M ft j := frB_body _ _ _ j hj
theorem en_body (m : Ms) (N : Nat) (d : Nat → Int) (h b : Nat → Nat → Nat) (M : Nat) (ft : Nat → Nat) (hg : EnG m N d M) (h3 : m.kind ≠ 3) :
    bdW (10 + enN m N M) (frB m.kind.toNat (enN m N M) (enF m N d h b M ft)) m.kind.toNat = none := by
  have A := en_at m N d h b M ft
  have g4 := hg.2.2.2.1
  have g6 := hg.2.2.2.2.2
  revert A
  obtain ⟨G, hGe⟩ : ∃ G, frB m.kind.toNat (enN m N M) (enF m N d h b M ft) = G := ⟨_, rfl⟩
  rw [hGe]
  clear hGe
  obtain k | k | k | k | k | k := en_kind m N d M hg
  · have e1 : enN m N M = 34 := by unfold enN; rw [if_pos k]
    intro _
    rw [e1, k]
    rfl
  · have e1 : enN m N M = 34 + 65 := by unfold enN; rw [if_neg (by omega), if_pos k]
    have e2 : enF m N d h b M ft = cat (hdB m) 34 (cmB m.id.toNat m.hid m.bnd) := by unfold enF; rw [if_neg (by omega), if_pos k]
    rw [e1, e2]
    intro A
    have g := g4 (Or.inl k)
    unfold okID at g
    have a0 : G 44 = m.id.toNat := by rw [show (44 : Nat) = 10 + (34 + 0) from rfl, A _ (by omega), catAtW]; rfl
    have p0 : prW 109 44 (G 44) = 0 := by unfold prW; rw [if_neg (by omega), if_neg (by rw [a0]; omega)]
    rw [k]
    show (if prW 109 44 (G 44) ≠ 0 then some (sPair, 44, prW 109 44 (G 44)) else tlW 109 109) = none
    rw [if_neg (by rw [p0]; simp)]
    rfl
  · exact absurd k h3
  · have e1 : enN m N M = 34 + 65 + 32 + 32 := by unfold enN; rw [if_neg (by omega), if_neg (by omega), if_neg (by omega), if_pos k]
    have e2 : enF m N d h b M ft = cat (cat (cat (hdB m) 34 (cmB m.id.toNat m.hid m.bnd)) (34 + 65) m.bind) (34 + 65 + 32) m.share := by unfold enF; rw [if_neg (by omega), if_neg (by omega), if_neg (by omega), if_pos k]
    rw [e1, e2]
    intro A
    have g := g4 (Or.inr k)
    unfold okID at g
    have a0 : G 44 = m.id.toNat := by rw [show (44 : Nat) = 10 + (34 + 0) from rfl, A _ (by omega), catLtW _ _ _ _ (by omega), catLtW _ _ _ _ (by omega), catAtW]; rfl
    have p0 : prW 173 44 (G 44) = 0 := by unfold prW; rw [if_neg (by omega), if_neg (by rw [a0]; omega)]
    rw [k]
    show (if prW 173 44 (G 44) ≠ 0 then some (sPair, 44, prW 173 44 (G 44)) else tlW 173 173) = none
    rw [if_neg (by rw [p0]; simp)]
    rfl
  · have e1 : enN m N M = 34 + 2 := by unfold enN; rw [if_neg (by omega), if_neg (by omega), if_neg (by omega), if_neg (by omega), if_pos k]
    have e2 : enF m N d h b M ft = cat (hdB m) 34 (b2 m.code.toNat) := by unfold enF; rw [if_neg (by omega), if_neg (by omega), if_neg (by omega), if_neg (by omega), if_pos k]
    rw [e1, e2]
    intro A
    have g := g6 k
    unfold okCode at g
    have a0 : G 44 = m.code.toNat / 256 % 256 := by rw [show (44 : Nat) = 10 + (34 + 0) from rfl, A _ (by omega), catAtW]; rfl
    have a1 : G 45 = m.code.toNat % 256 := by rw [show (45 : Nat) = 10 + (34 + 1) from rfl, A _ (by omega), catAtW]; rfl
    have c0 : nm G 44 2 ≠ 0 := by
      show (0 * 256 + G 44) * 256 + G 45 ≠ 0
      rw [a0, a1]; omega
    rw [k]
    show (if nm G 44 2 = 0 then some (sCode, 44, 1) else tlW 46 46) = none
    rw [if_neg c0]
    rfl
  · have e1 : enN m N M = 34 + 64 := by unfold enN; rw [if_neg (by omega), if_neg (by omega), if_neg (by omega), if_neg (by omega), if_neg (by omega)]
    intro _
    rw [e1, k]
    rfl
theorem nm4 (G : Nat → Nat) (a n : Nat) (hn : n < 4294967296) (h : ∀ j, j < 4 → G (a + j) = b4 n j) : nm G a 4 = n := by
  show ((((0 * 256 + G (a + 0)) * 256 + G (a + 1)) * 256 + G (a + 2)) * 256 + G (a + 3)) = n
  rw [h 0 (by omega), h 1 (by omega), h 2 (by omega), h 3 (by omega)]
  show ((((0 * 256 + n / 16777216 % 256) * 256 + n / 65536 % 256) * 256 + n / 256 % 256) * 256 + n % 256) = n
  omega
/-- What the bytes of an encoded package are. -/
theorem en_pack (m : Ms) (N : Nat) (d : Nat → Int) (h b : Nat → Nat → Nat) (M : Nat) (ft : Nat → Nat) (hg : EnG m N d M) (k : m.kind = 3) (G : Nat → Nat) (hG : frB m.kind.toNat (enN m N M) (enF m N d h b M ft) = G) :
    enN m N M = 34 + (1 + 65 * N) + (4 + M) ∧ G 44 = N ∧ (∀ j, j < 65 * N → G (45 + j) = csB d h b j) ∧ nm G (45 + 65 * N) 4 = M ∧ (∀ j, j < M → G (45 + 65 * N + 4 + j) = ft j) := by
  have A := en_at m N d h b M ft
  rw [hG] at A
  have e1 : enN m N M = 34 + (1 + 65 * N) + (4 + M) := by unfold enN; rw [if_neg (by omega), if_neg (by omega), if_pos k]
  have e2 : enF m N d h b M ft = cat (hdB m) 34 (pkB N d h b M ft) := by unfold enF; rw [if_neg (by omega), if_neg (by omega), if_pos k]
  rw [e1, e2] at A
  have g := hg.2.2.2.2.1 k
  have B : ∀ j, j < 1 + 65 * N → G (44 + j) = lsB N d h b j := fun j hj => by
    rw [show 44 + j = 10 + (34 + j) by omega, A _ (by omega), catAtW]
    exact catLtW _ _ _ _ hj
  have C : ∀ j, j < 4 + M → G (45 + 65 * N + j) = cat (b4 M) 4 ft j := fun j hj => by
    rw [show 45 + 65 * N + j = 10 + (34 + ((1 + 65 * N) + j)) by omega, A _ (by omega), catAtW]
    exact catAtW _ _ _ _
  refine ⟨e1, ?_, ?_, ?_, ?_⟩
  · have := B 0 (by omega); exact this
  · intro j hj
    rw [show 45 + j = 44 + (1 + j) by omega, B _ (by omega)]
    exact catAtW _ _ _ _
  · refine nm4 G _ M (by omega) fun j hj => ?_
    rw [C j (by omega)]
    exact catLtW _ _ _ _ hj
  · intro j hj
    rw [show 45 + 65 * N + 4 + j = 45 + 65 * N + (4 + j) by omega, C _ (by omega)]
    exact catAtW _ _ _ _
theorem en_pack_ok (m : Ms) (N : Nat) (d : Nat → Int) (h b : Nat → Nat → Nat) (M : Nat) (ft : Nat → Nat) (hg : EnG m N d M) (k : m.kind = 3) (G : Nat → Nat) (hG : frB m.kind.toNat (enN m N M) (enF m N d h b M ft) = G) :
    Pk3 (10 + enN m N M) G := by
  obtain ⟨e1, a0, a1, a2, a3⟩ := en_pack m N d h b M ft hg k G hG
  have g := hg.2.2.2.2.1 k
  unfold Pk3
  rw [a0, a2, e1]
  refine ⟨⟨by omega, fun i hi => ?_⟩, g.2.2, by omega⟩
  have q := a1 (65 * i) (by omega)
  have q2 : csB d h b (65 * i) = (d i).toNat := by
    unfold csB
    rw [Nat.mul_mod_right, Nat.mul_div_cancel_left i (by omega)]
    rfl
  have o := g.2.1 i hi
  unfold okID at o
  unfold prW
  rw [if_neg (by omega), if_neg (by rw [q, q2]; omega)]
theorem Pk3.noP {n : Nat} {F : Nat → Nat} (h : Pk3 n F) {s : ByteArray} {a y : Nat} : ¬ Bd3 n F s a y := by
  obtain ⟨⟨h1, h2⟩, h3, h4⟩ := h
  rintro (⟨q, _⟩ | ⟨_, q, _⟩ | ⟨_, q, _⟩ | ⟨_, q, _⟩ | ⟨_, j, q1, _, q2, _⟩ | ⟨_, _, ⟨_, q0, ⟨q, _⟩ | ⟨_, q, _⟩ | ⟨_, _, q, _⟩⟩ | ⟨_, q, _⟩⟩)
  · omega
  · omega
  · omega
  · omega
  · exact q2 (h2 j q1)
  · omega
  · subst q0; omega
  · subst q0; omega
  · omega
/-- A frame of a message that may be has no fault. -/
theorem en_FrP (m : Ms) (N : Nat) (d : Nat → Int) (h b : Nat → Nat → Nat) (M : Nat) (ft : Nat → Nat) (hg : EnG m N d M) (s : ByteArray) (a y : Nat) :
    ¬ FrP (14 + enN m N M) (frB m.kind.toNat (enN m N M) (enF m N d h b M ft)) s a y := by
  have hk := hg.1
  unfold okKind at hk
  have hn := enN_le2 m N d M hg
  have hH := frB_HdG m.kind.toNat (enN m N M) (14 + enN m N M) (enF m N d h b M ft) (by omega) hn (by omega)
  have hL := frB_len m.kind.toNat (enN m N M) (enF m N d h b M ft) (by omega)
  have hE := frB_eqn m.kind.toNat (enN m N M) (enF m N d h b M ft) (by omega)
  have h5 : frB m.kind.toNat (enN m N M) (enF m N d h b M ft) 5 = m.kind.toNat := by rw [frB_he _ _ _ _ (by omega)]; rfl
  rintro (q | ⟨_, ⟨q, _⟩ | ⟨q, _⟩ | ⟨_, ⟨q, _⟩ | ⟨_, q⟩⟩⟩)
  · exact hH.noP q
  · omega
  · omega
  · rw [hE] at q; simp at q
  · rw [hL, h5] at q
    unfold BdP at q
    by_cases k : m.kind = 3
    · rw [if_pos (by omega)] at q
      exact (en_pack_ok m N d h b M ft hg k _ rfl).noP q
    · rw [if_neg (by omega), en_body m N d h b M ft hg k] at q
      simp at q
end Go.Proofs.YtgjclegpnbjlkaaGreatDoor

/- wire: what an encoded frame tells: the message, but for what its kind has no use for. -/
namespace Go.Proofs.YtgjclegpnbjlkaaGreatDoor
open Go.RowKit

/-- The same message, cell for cell. -/
def SmM (a b : Ms) : Prop := a.kind = b.kind ∧ (∀ i, i < 32 → a.ses i = b.ses i) ∧ a.fr = b.fr ∧ a.to = b.to ∧ a.id = b.id ∧ (∀ i, i < 32 → a.hid i = b.hid i) ∧ (∀ i, i < 32 → a.bnd i = b.bnd i) ∧ a.list = b.list ∧ a.text = b.text ∧ (∀ i, i < 32 → a.bind i = b.bind i) ∧ (∀ i, i < 32 → a.share i = b.share i) ∧ (∀ i, i < 64 → a.sig i = b.sig i) ∧ a.code = b.code
theorem yL_eq (n : Nat) (f g : Nat → Nat) (h : ∀ i, i < n → f i = g i) : yL n f = yL n g := List.map_congr_left fun j hj => by
  show Value.int .u8 ((f j : Nat) : Int) = _
  rw [h j (by simpa using hj)]
theorem SmM.cells {a b : Ms} (h : SmM a b) : msC a = msC b := by
  obtain ⟨h1, h2, h3, h4, h5, h6, h7, h8, h9, h10, h11, h12, h13⟩ := h
  unfold msC msL
  rw [h1, yL_eq 32 _ _ h2, h3, h4, h5, yL_eq 32 _ _ h6, yL_eq 32 _ _ h7, h8, h9, yL_eq 32 _ _ h10, yL_eq 32 _ _ h11, yL_eq 64 _ _ h12, h13]
/-- What a message of its kind has use for (but a package's list and text). -/
def us0 (m : Ms) : Ms := { ms0 m.kind with ses := m.ses, fr := m.fr, to := m.to }
def usM (m : Ms) : Ms :=
  if m.kind = 1 ∨ m.kind = 3 then us0 m else if m.kind = 2 then { us0 m with id := m.id, hid := m.hid, bnd := m.bnd } else
  if m.kind = 4 then { us0 m with id := m.id, hid := m.hid, bnd := m.bnd, bind := m.bind, share := m.share } else
  if m.kind = 5 then { us0 m with code := m.code } else { us0 m with sig := m.sig }
theorem en_34 (m : Ms) (N M : Nat) : 34 ≤ enN m N M := by
  unfold enN
  repeat' split
  all_goals omega
theorem en_hd (m : Ms) (N : Nat) (d : Nat → Int) (h b : Nat → Nat → Nat) (M : Nat) (ft : Nat → Nat) (j : Nat) (hj : j < 34) : frB m.kind.toNat (enN m N M) (enF m N d h b M ft) (10 + j) = hdB m j := by
  rw [en_at m N d h b M ft j (by have := en_34 m N M; omega)]
  unfold enF
  repeat' split
  · rfl
  · exact catLtW _ _ _ _ hj
  · exact catLtW _ _ _ _ hj
  · rw [catLtW _ _ _ _ (by omega), catLtW _ _ _ _ (by omega)]; exact catLtW _ _ _ _ hj
  · exact catLtW _ _ _ _ hj
  · exact catLtW _ _ _ _ hj
theorem rd0_us (m : Ms) (N : Nat) (d : Nat → Int) (h b : Nat → Nat → Nat) (M : Nat) (ft : Nat → Nat) (hg : EnG m N d M) (K : Int) (hK : m.kind = K) : SmM (rd0 (frB m.kind.toNat (enN m N M) (enF m N d h b M ft)) K) (us0 m) := by
  have A := en_hd m N d h b M ft
  have g2 := hg.2.1
  have g3 := hg.2.2.1
  unfold okPt at g2 g3
  have a42 : frB m.kind.toNat (enN m N M) (enF m N d h b M ft) 42 = m.fr.toNat := A 32 (by omega)
  have a43 : frB m.kind.toNat (enN m N M) (enF m N d h b M ft) 43 = m.to.toNat := A 33 (by omega)
  refine ⟨hK.symm, fun i hi => ?_, ?_, ?_, rfl, fun _ _ => rfl, fun _ _ => rfl, rfl, rfl, fun _ _ => rfl, fun _ _ => rfl, fun _ _ => rfl, rfl⟩
  · show frB m.kind.toNat (enN m N M) (enF m N d h b M ft) (10 + i) = m.ses i
    rw [A i (by omega)]
    exact catLtW _ _ _ _ hi
  · show ((frB m.kind.toNat (enN m N M) (enF m N d h b M ft) 42 : Nat) : Int) = m.fr
    rw [a42]; omega
  · show ((frB m.kind.toNat (enN m N M) (enF m N d h b M ft) 43 : Nat) : Int) = m.to
    rw [a43]; omega
theorem en_rdM (m : Ms) (N : Nat) (d : Nat → Int) (h b : Nat → Nat → Nat) (M : Nat) (ft : Nat → Nat) (hg : EnG m N d M) (h3 : m.kind ≠ 3) :
    SmM (rdM (frB m.kind.toNat (enN m N M) (enF m N d h b M ft)) m.kind.toNat) (usM m) := by
  have A := en_at m N d h b M ft
  have R := rd0_us m N d h b M ft hg
  have g4 := hg.2.2.2.1
  have g6 := hg.2.2.2.2.2
  revert A R
  obtain ⟨G, hGe⟩ : ∃ G, frB m.kind.toNat (enN m N M) (enF m N d h b M ft) = G := ⟨_, rfl⟩
  rw [hGe]
  clear hGe
  obtain k | k | k | k | k | k := en_kind m N d M hg
  · intro _ R
    have e : usM m = us0 m := by unfold usM; rw [if_pos (Or.inl k)]
    rw [e, k]
    exact R 1 k
  · have e1 : enN m N M = 34 + 65 := by unfold enN; rw [if_neg (by omega), if_pos k]
    have e2 : enF m N d h b M ft = cat (hdB m) 34 (cmB m.id.toNat m.hid m.bnd) := by unfold enF; rw [if_neg (by omega), if_pos k]
    rw [e1, e2]
    intro A R
    have R2 := R 2 k
    have g := g4 (Or.inl k)
    unfold okID at g
    have P : ∀ j, j < 65 → G (44 + j) = cmB m.id.toNat m.hid m.bnd j := fun j hj => by rw [show 44 + j = 10 + (34 + j) by omega, A _ (by omega), catAtW]
    have e : usM m = { us0 m with id := m.id, hid := m.hid, bnd := m.bnd } := by unfold usM; rw [if_neg (by omega), if_pos k]
    rw [e, k]
    obtain ⟨r1, r2, r3, r4, r5, r6, r7, r8, r9, r10, r11, r12, r13⟩ := R2
    refine ⟨r1, r2, r3, r4, ?_, fun i hi => ?_, fun i hi => ?_, r8, r9, r10, r11, r12, r13⟩
    · show ((G 44 : Nat) : Int) = m.id
      rw [show G 44 = m.id.toNat from P 0 (by omega)]; omega
    · show G (44 + 1 + i) = m.hid i
      rw [show 44 + 1 + i = 44 + (1 + i) by omega, P _ (by omega)]
      unfold cmB
      rw [if_neg (by omega), if_pos (by omega), Nat.add_sub_cancel_left]
    · show G (44 + 33 + i) = m.bnd i
      rw [show 44 + 33 + i = 44 + (33 + i) by omega, P _ (by omega)]
      unfold cmB
      rw [if_neg (by omega), if_neg (by omega), Nat.add_sub_cancel_left]
  · exact absurd k h3
  · have e1 : enN m N M = 34 + 65 + 32 + 32 := by unfold enN; rw [if_neg (by omega), if_neg (by omega), if_neg (by omega), if_pos k]
    have e2 : enF m N d h b M ft = cat (cat (cat (hdB m) 34 (cmB m.id.toNat m.hid m.bnd)) (34 + 65) m.bind) (34 + 65 + 32) m.share := by unfold enF; rw [if_neg (by omega), if_neg (by omega), if_neg (by omega), if_pos k]
    rw [e1, e2]
    intro A R
    have R2 := R 4 k
    have g := g4 (Or.inr k)
    unfold okID at g
    have P : ∀ j, j < 65 → G (44 + j) = cmB m.id.toNat m.hid m.bnd j := fun j hj => by rw [show 44 + j = 10 + (34 + j) by omega, A _ (by omega), catLtW _ _ _ _ (by omega), catLtW _ _ _ _ (by omega), catAtW]
    have e : usM m = { us0 m with id := m.id, hid := m.hid, bnd := m.bnd, bind := m.bind, share := m.share } := by unfold usM; rw [if_neg (by omega), if_neg (by omega), if_pos k]
    rw [e, k]
    obtain ⟨r1, r2, r3, r4, r5, r6, r7, r8, r9, r10, r11, r12, r13⟩ := R2
    refine ⟨r1, r2, r3, r4, ?_, fun i hi => ?_, fun i hi => ?_, r8, r9, fun i hi => ?_, fun i hi => ?_, r12, r13⟩
    · show ((G 44 : Nat) : Int) = m.id
      rw [show G 44 = m.id.toNat from P 0 (by omega)]; omega
    · show G (44 + 1 + i) = m.hid i
      rw [show 44 + 1 + i = 44 + (1 + i) by omega, P _ (by omega)]
      unfold cmB
      rw [if_neg (by omega), if_pos (by omega), Nat.add_sub_cancel_left]
    · show G (44 + 33 + i) = m.bnd i
      rw [show 44 + 33 + i = 44 + (33 + i) by omega, P _ (by omega)]
      unfold cmB
      rw [if_neg (by omega), if_neg (by omega), Nat.add_sub_cancel_left]
    · show G (109 + i) = m.bind i
      rw [show 109 + i = 10 + (34 + 65 + i) by omega, A _ (by omega), catLtW _ _ _ _ (by omega), catAtW]
    · show G (141 + i) = m.share i
      rw [show 141 + i = 10 + (34 + 65 + 32 + i) by omega, A _ (by omega), catAtW]
  · have e1 : enN m N M = 34 + 2 := by unfold enN; rw [if_neg (by omega), if_neg (by omega), if_neg (by omega), if_neg (by omega), if_pos k]
    have e2 : enF m N d h b M ft = cat (hdB m) 34 (b2 m.code.toNat) := by unfold enF; rw [if_neg (by omega), if_neg (by omega), if_neg (by omega), if_neg (by omega), if_pos k]
    rw [e1, e2]
    intro A R
    have R2 := R 5 k
    have g := g6 k
    unfold okCode at g
    have a0 : G 44 = m.code.toNat / 256 % 256 := by rw [show (44 : Nat) = 10 + (34 + 0) from rfl, A _ (by omega), catAtW]; rfl
    have a1 : G 45 = m.code.toNat % 256 := by rw [show (45 : Nat) = 10 + (34 + 1) from rfl, A _ (by omega), catAtW]; rfl
    have e : usM m = { us0 m with code := m.code } := by unfold usM; rw [if_neg (by omega), if_neg (by omega), if_neg (by omega), if_pos k]
    rw [e, k]
    obtain ⟨r1, r2, r3, r4, r5, r6, r7, r8, r9, r10, r11, r12, r13⟩ := R2
    refine ⟨r1, r2, r3, r4, r5, r6, r7, r8, r9, r10, r11, r12, ?_⟩
    show ((((0 * 256 + G 44) * 256 + G 45 : Nat)) : Int) = m.code
    rw [a0, a1]; omega
  · have e1 : enN m N M = 34 + 64 := by unfold enN; rw [if_neg (by omega), if_neg (by omega), if_neg (by omega), if_neg (by omega), if_neg (by omega)]
    have e2 : enF m N d h b M ft = cat (hdB m) 34 m.sig := by unfold enF; rw [if_neg (by omega), if_neg (by omega), if_neg (by omega), if_neg (by omega), if_neg (by omega)]
    rw [e1, e2]
    intro A R
    have R2 := R 6 k
    have e : usM m = { us0 m with sig := m.sig } := by unfold usM; rw [if_neg (by omega), if_neg (by omega), if_neg (by omega), if_neg (by omega)]
    rw [e, k]
    obtain ⟨r1, r2, r3, r4, r5, r6, r7, r8, r9, r10, r11, r12, r13⟩ := R2
    refine ⟨r1, r2, r3, r4, r5, r6, r7, r8, r9, r10, r11, fun i hi => ?_, r13⟩
    show G (44 + i) = m.sig i
    rw [show 44 + i = 10 + (34 + i) by omega, A _ (by omega), catAtW]
end Go.Proofs.YtgjclegpnbjlkaaGreatDoor

/- wire: Decode of an encoded frame. -/
namespace Go.Proofs.YtgjclegpnbjlkaaGreatDoor
open Go.RowKit

theorem Decode_en (g o c : Nat) (m : Ms) (N : Nat) (d : Nat → Int) (h b : Nat → Nat → Nat) (M : Nat) (ft : Nat → Nat) (hg : EnG m N d M) (h3 : m.kind ≠ 3) (hc : 14 + enN m N M ≤ c) (hc2 : c ≤ 9223372036854775807) (w : World) (hG : Gl w)
    (hB : Bs w g o (14 + enN m N M) (frB m.kind.toNat (enN m N M) (enF m N d h b M ft))) :
    Calls Tryz.prog 15 #[.slice (some ⟨g, o, none⟩) (14 + enN m N M) c] w fun e w' => e = .returned (.tuple #[.agg (msC (usM m)), .nilIface]) ∧ Chg w w' [] := by
  refine (Decode_s g o _ c _ hc hc2 w hG hB).mono ?_
  rintro e w' ⟨⟨s, a, y, h1, _⟩ | ⟨B, M', _, rfl, h2⟩, k⟩
  · exact absurd h1 (en_FrP m N d h b M ft hg s a y)
  · refine ⟨?_, k⟩
    have hk := hg.1
    unfold okKind at hk
    have h5 : frB m.kind.toNat (enN m N M) (enF m N d h b M ft) 5 = m.kind.toNat := by rw [frB_he _ _ _ _ (by omega)]; rfl
    have q := h2.2.2.2
    unfold BdR at q
    rw [h5, if_neg (by omega)] at q
    rw [q.2, (en_rdM m N d h b M ft hg h3).cells]
/-- A package's frame: the list and the text are new, and read as the message's did. -/
theorem Decode_en3 (g o c : Nat) (m : Ms) (N : Nat) (d : Nat → Int) (h b : Nat → Nat → Nat) (M : Nat) (ft : Nat → Nat) (hg : EnG m N d M) (h3 : m.kind = 3) (hc : 14 + enN m N M ≤ c) (hc2 : c ≤ 9223372036854775807) (w : World) (hG : Gl w)
    (hB : Bs w g o (14 + enN m N M) (frB m.kind.toNat (enN m N M) (enF m N d h b M ft))) :
    Calls Tryz.prog 15 #[.slice (some ⟨g, o, none⟩) (14 + enN m N M) c] w fun e w' => (∃ B M' vl vt, w.heap.size ≤ B ∧ e = .returned (.tuple #[.agg (msC M'), .nilIface]) ∧ SmM M' { us0 m with list := vl, text := vt } ∧
      OwnR w' B 27 65 vl N (lsF (frB m.kind.toNat (enN m N M) (enF m N d h b M ft)) 45) ∧ (∀ j, j < 65 * N → frB m.kind.toNat (enN m N M) (enF m N d h b M ft) (45 + j) = csB d h b j) ∧
      Own w' B vt M (fun j => frB m.kind.toNat (enN m N M) (enF m N d h b M ft) (45 + 65 * N + 4 + j)) ∧ (∀ j, j < M → frB m.kind.toNat (enN m N M) (enF m N d h b M ft) (45 + 65 * N + 4 + j) = ft j)) ∧ Chg w w' [] := by
  refine (Decode_s g o _ c _ hc hc2 w hG hB).mono ?_
  rintro e w' ⟨⟨s, a, y, h1, _⟩ | ⟨B, M', hWB, rfl, h2⟩, k⟩
  · exact absurd h1 (en_FrP m N d h b M ft hg s a y)
  · refine ⟨?_, k⟩
    have h5 : frB m.kind.toNat (enN m N M) (enF m N d h b M ft) 5 = m.kind.toNat := by rw [frB_he _ _ _ _ (by omega)]; rfl
    obtain ⟨_, a0, a1, a2, a3⟩ := en_pack m N d h b M ft hg h3 _ rfl
    have q := h2.2.2.2
    unfold BdR at q
    rw [h5, if_pos (by omega), a0, a2] at q
    obtain ⟨_, vl, vt, q1, q2, q3⟩ := q
    obtain ⟨r1, r2, r3, r4, r5, r6, r7, r8, r9, r10, r11, r12, r13⟩ := rd0_us m N d h b M ft hg 3 h3
    exact ⟨B, M', vl, vt, hWB, rfl, by rw [q1]; exact ⟨r1, r2, r3, r4, r5, r6, r7, rfl, rfl, r10, r11, r12, r13⟩, q2, a1, q3, a3⟩
end Go.Proofs.YtgjclegpnbjlkaaGreatDoor
