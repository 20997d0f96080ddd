/- seal, as numbers: what is sealed carries its tag; the tag of another text beside it is another one. Nothing of the program. -/
import Derived.Test.YtnopkojpgemldaaSeZc
set_option linter.unusedVariables false
set_option linter.unusedSimpArgs false
set_option linter.unnecessarySimpa false
namespace Go.Proofs.Ytnopkojpgemldaa
open Go.RowKit

theorem qat_cg {s t : Nat → Nat} (h : ∀ i, i < 16 → s i = t i) (i j k l : Nat) (hi : i < 16) (hj : j < 16) (hk : k < 16) (hl : l < 16) : ∀ x, x < 16 → qat s i j k l x = qat t i j k l x := fun x hx => by
  unfold qat up
  simp only [h i hi, h j hj, h k hk, h l hl, h x hx]
theorem cols_cg {s t : Nat → Nat} (h : ∀ i, i < 16 → s i = t i) : ∀ n, n ≤ 4 → ∀ x, x < 16 → cols s n x = cols t n x
  | 0, _ => h
  | n + 1, hn => qat_cg (cols_cg h n (by omega)) _ _ _ _ (by omega) (by omega) (by omega) (by omega)
theorem dias_cg {s t : Nat → Nat} (h : ∀ i, i < 16 → s i = t i) : ∀ n, n ≤ 4 → ∀ x, x < 16 → dias s n x = dias t n x
  | 0, _ => h
  | n + 1, hn => qat_cg (dias_cg h n (by omega)) _ _ _ _ (by omega) (by omega) (by omega) (by omega)
theorem dbl_cg {s t : Nat → Nat} (h : ∀ i, i < 16 → s i = t i) : ∀ x, x < 16 → dbl s x = dbl t x := dias_cg (cols_cg h 4 (by omega)) 4 (by omega)
def lf (l : List Nat) (i : Nat) : Nat := l.getD i 0
def z0 : Nat → Nat := fun _ => 0
theorem stirs_to {s t u : Nat → Nat} {n : Nat} (h : ∀ i, i < 16 → stirs s n i = t i) (hd : ∀ i, i < 16 → dbl t i = u i) : ∀ i, i < 16 → stirs s (n + 1) i = u i := fun i hi => by
  show dbl (stirs s n) i = u i
  rw [dbl_cg h i hi, hd i hi]
theorem c0_0 : ∀ i, i < 16 → stirs (st0 z0 0 z0) 0 i = lf [1634760805, 857760878, 2036477234, 1797285236, 0, 0, 0, 0, 0, 0, 0, 0, 0, 0, 0, 0] i := by decide +kernel
theorem c0_1 : ∀ i, i < 16 → stirs (st0 z0 0 z0) 1 i = lf [3831485001, 465051814, 3810167018, 3865553406, 708572787, 2260680856, 1175146506, 4195784838, 1401801230, 205755969, 16389820, 2315813162, 1807715081, 3274707926, 3147798601, 2277908837] i := stirs_to c0_0 (by decide +kernel)
theorem c0_2 : ∀ i, i < 16 → stirs (st0 z0 0 z0) 2 i = lf [2987265446, 555851331, 2043056534, 2394542343, 683648334, 243939487, 2031723700, 842999353, 1769110809, 317167340, 3515309448, 1613476332, 1612483213, 416233319, 1624313532, 397031114] i := stirs_to c0_1 (by decide +kernel)
theorem c0_3 : ∀ i, i < 16 → stirs (st0 z0 0 z0) 3 i = lf [42443425, 3537648111, 4075615518, 3280431870, 2457253921, 936163239, 535217241, 3858322967, 3618735395, 2694131698, 320827381, 1865984460, 1547860575, 496143739, 4107449562, 442763396] i := stirs_to c0_2 (by decide +kernel)
theorem c0_4 : ∀ i, i < 16 → stirs (st0 z0 0 z0) 4 i = lf [3464398809, 2736782107, 1867918925, 914662315, 3272508460, 998218446, 2296453912, 505049583, 1927367832, 1097802169, 1733510303, 425094469, 2739030577, 28346074, 3103619896, 1123945486] i := stirs_to c0_3 (by decide +kernel)
theorem c0_5 : ∀ i, i < 16 → stirs (st0 z0 0 z0) 5 i = lf [1308838156, 2549006073, 4135762692, 793240496, 1354003995, 3934035184, 3013862787, 3854227624, 1335860601, 1156916115, 2881466214, 1593652346, 2985647285, 85002989, 1444698375, 3558679988] i := stirs_to c0_4 (by decide +kernel)
theorem c0_6 : ∀ i, i < 16 → stirs (st0 z0 0 z0) 6 i = lf [153779254, 551088281, 2573988431, 1784856811, 3150129412, 343203913, 2777219198, 1595256366, 2046321669, 3236133586, 875096108, 2039282348, 748642874, 426368672, 803736417, 3190166337] i := stirs_to c0_5 (by decide +kernel)
theorem c0_7 : ∀ i, i < 16 → stirs (st0 z0 0 z0) 7 i = lf [1843350424, 1608384784, 3655185970, 1947739403, 3718507033, 1188705781, 838547146, 1894081315, 1188398960, 3234391270, 3125483095, 3295685470, 2940917475, 3868489986, 646047163, 674516562] i := stirs_to c0_6 (by decide +kernel)
theorem c0_8 : ∀ i, i < 16 → stirs (st0 z0 0 z0) 8 i = lf [4142613381, 256929999, 2185938132, 4278346116, 1910216669, 1624086861, 2910867510, 2312475086, 2656191475, 382791205, 2196319126, 3503982164, 1805033478, 1199192055, 3527735948, 2991348835] i := stirs_to c0_7 (by decide +kernel)
theorem c0_9 : ∀ i, i < 16 → stirs (st0 z0 0 z0) 9 i = lf [172609723, 4252221419, 3259208404, 3775952493, 2081980761, 957320013, 170075935, 235214466, 1531487041, 140632055, 1563676091, 399783725, 3319306763, 2649833516, 2961880544, 2236122496] i := stirs_to c0_8 (by decide +kernel)
theorem c0_10 : ∀ i, i < 16 → stirs (st0 z0 0 z0) 10 i = lf [1282424849, 1562217778, 1812475918, 3181191391, 3088700093, 451775904, 3438229160, 3339548555, 2086224346, 2370328401, 1071654007, 927652024, 4105716586, 480319509, 1773569987, 2254827186] i := stirs_to c0_9 (by decide +kernel)
theorem b0_w : ∀ i, i < 16 → bkW (st0 z0 0 z0) i = lf [2917185654, 2419978656, 3848953152, 683509331, 3088700093, 451775904, 3438229160, 3339548555, 2086224346, 2370328401, 1071654007, 927652024, 4105716586, 480319509, 1773569987, 2254827186] i := fun i hi => by
  unfold bkW
  rw [c0_10 i hi, show st0 z0 0 z0 i = lf [1634760805, 857760878, 2036477234, 1797285236, 0, 0, 0, 0, 0, 0, 0, 0, 0, 0, 0, 0] i from c0_0 i hi]
  revert i
  decide +kernel
def B0 : List Nat := [118, 184, 224, 173, 160, 241, 61, 144, 64, 93, 106, 229, 83, 134, 189, 40, 189, 210, 25, 184, 160, 141, 237, 26, 168, 54, 239, 204, 139, 119, 13, 199]
theorem b0_b : ∀ j, j < 32 → bkB (st0 z0 0 z0) j = lf B0 j := fun j hj => by
  unfold bkB
  rw [b0_w (j / 4) (by omega)]
  revert j
  decide +kernel
theorem c1_0 : ∀ i, i < 16 → stirs (st0 z0 1 z0) 0 i = lf [1634760805, 857760878, 2036477234, 1797285236, 0, 0, 0, 0, 0, 0, 0, 0, 1, 0, 0, 0] i := by decide +kernel
theorem c1_1 : ∀ i, i < 16 → stirs (st0 z0 1 z0) 1 i = lf [3546272329, 468197545, 3542059226, 2390702463, 3250539402, 4273424920, 2717340651, 4179525772, 1468848686, 69998513, 17434281, 1240955178, 733905929, 3325043686, 2878314809, 2278957394] i := stirs_to c1_0 (by decide +kernel)
theorem c1_2 : ∀ i, i < 16 → stirs (st0 z0 1 z0) 2 i = lf [3157827496, 3116003413, 814081981, 10414287, 179695309, 823215898, 2259977454, 2136047469, 1194474312, 311014104, 4162811768, 2904675566, 1873811018, 2916363566, 2179819682, 1712609393] i := stirs_to c1_1 (by decide +kernel)
theorem c1_3 : ∀ i, i < 16 → stirs (st0 z0 1 z0) 3 i = lf [99573540, 170115360, 4037765429, 3765564959, 3802541401, 1474171739, 636032945, 2538759768, 3476057250, 1573145217, 3760201836, 3365809936, 1563725638, 1356885763, 1223286156, 2091974780] i := stirs_to c1_2 (by decide +kernel)
theorem c1_4 : ∀ i, i < 16 → stirs (st0 z0 1 z0) 4 i = lf [2894739053, 513884540, 4084784525, 1116048525, 307822016, 2862807385, 2400187100, 1805805269, 955003472, 2564474299, 1450118382, 1697286027, 633309855, 3139562269, 3638908491, 2858950274] i := stirs_to c1_3 (by decide +kernel)
theorem c1_5 : ∀ i, i < 16 → stirs (st0 z0 1 z0) 5 i = lf [3022789992, 714625701, 2106827031, 1156662477, 3874200222, 367268782, 3931698438, 1794763020, 1779546449, 1426851197, 908867657, 3713004287, 2538848752, 859339931, 2572942841, 122662459] i := stirs_to c1_4 (by decide +kernel)
theorem c1_6 : ∀ i, i < 16 → stirs (st0 z0 1 z0) 6 i = lf [3759692966, 3411270066, 3121598292, 3522657048, 3085641926, 3435904281, 562369813, 3028926540, 3448579394, 301026465, 2545418950, 1137216539, 3393593064, 3226554768, 2963686439, 378791447] i := stirs_to c1_5 (by decide +kernel)
theorem c1_7 : ∀ i, i < 16 → stirs (st0 z0 1 z0) 7 i = lf [1621494728, 1858692907, 571059160, 1775260130, 3992341931, 703315691, 1728035171, 3206926585, 3624115443, 1570305916, 3207045883, 3902777933, 2203364705, 1102640027, 2556670575, 3720887643] i := stirs_to c1_6 (by decide +kernel)
theorem c1_8 : ∀ i, i < 16 → stirs (st0 z0 1 z0) 8 i = lf [478269720, 126115235, 4219936667, 3098758599, 2068430373, 156484986, 2522318583, 2969242349, 1198295773, 18109300, 3449936434, 2695069474, 1442169299, 3998645398, 313315868, 2204003642] i := stirs_to c1_7 (by decide +kernel)
theorem c1_9 : ∀ i, i < 16 → stirs (st0 z0 1 z0) 9 i = lf [4139609410, 3467415109, 834914810, 749456824, 2022747248, 4278601560, 2442514770, 1187834509, 2898531343, 2052252685, 3728910248, 3613465690, 1774425000, 4134983487, 3007500430, 1809508324] i := stirs_to c1_8 (by decide +kernel)
theorem c1_10 : ∀ i, i < 16 → stirs (st0 z0 1 z0) 10 i = lf [1568051002, 1192750311, 53841254, 2716321791, 2687045579, 1768285000, 1045677586, 3984256562, 1981921065, 1129244316, 2956161493, 3577337972, 673180976, 1174080081, 520806828, 1867348299] i := stirs_to c1_9 (by decide +kernel)
theorem b1_w : ∀ i, i < 16 → bkW (st0 z0 1 z0) i = lf [3202811807, 2050511189, 2090318488, 218639731, 2687045579, 1768285000, 1045677586, 3984256562, 1981921065, 1129244316, 2956161493, 3577337972, 673180977, 1174080081, 520806828, 1867348299] i := fun i hi => by
  unfold bkW
  rw [c1_10 i hi, show st0 z0 1 z0 i = lf [1634760805, 857760878, 2036477234, 1797285236, 0, 0, 0, 0, 0, 0, 0, 0, 1, 0, 0, 0] i from c1_0 i hi]
  revert i
  decide +kernel
def B1 : List Nat := [159, 7, 231, 190]
theorem b1_b : ∀ j, j < 4 → bkB (st0 z0 1 z0) j = lf B1 j := fun j hj => by
  unfold bkB
  rw [b1_w (j / 4) (by omega)]
  revert j
  decide +kernel
theorem ks_eq (k : Nat → Nat) (ct : Nat) (n : Nat → Nat) (i : Nat) : ks k ct n i = bkB (st0 k ((ct + i / 64) % 4294967296) n) (i % 64) := by
  unfold ks ksS
  rw [st0_up, show st0 k ct n 12 = ct from rfl]
def txt : Nat → Nat := lf [116, 101, 120, 116]
def ML : List Nat := [235, 98, 159, 202]
theorem ml_is : ∀ i, i < 4 → xo txt (ks z0 1 z0) i = lf ML i := fun i hi => by
  unfold xo
  rw [ks_eq, show (1 + i / 64) % 4294967296 = 1 by omega, show i % 64 = i by omega, b1_b i hi]
  revert i
  decide +kernel
theorem tks_cg {f g : Nat → Nat} {n : Nat} (R A : Nat) (h : ∀ i, i < n → f i = g i) : ∀ k, tks R n f A k = tks R n g A k
  | 0 => rfl
  | k + 1 => by
    rw [tks, tks, tks_cg R A h k, nle_eq _ (fun i hi => h _ (by have e : Nat.min (n - 16 * k) 16 = min (n - 16 * k) 16 := rfl; rw [e] at hi; omega))]
theorem cl_cg {K L : Nat → Nat} (h : ∀ j, j < 16 → K j = L j) (i : Nat) : cl K i = cl L i := by
  unfold cl
  by_cases h3 : 16 ≤ i
  · rw [if_pos h3, if_pos h3]
  · rw [if_neg h3, if_neg h3, h i (by omega)]
theorem rK_cg {K L : Nat → Nat} (h : ∀ j, j < 16 → K j = L j) : rK K = rK L := nle_eq 17 fun i _ => cl_cg h i
theorem tgB_cg {s t : Nat → Nat} (A : Nat) (h : ∀ j, j < 16 → s j = t j) (i : Nat) : tgB A s i = tgB A t i := by
  unfold tgB tgN
  rw [nle_eq 16 h]
theorem tagA_cg {K L : Nat → Nat} (h : ∀ j, j < 16 → K j = L j) (n0 : Nat) {f0 g0 : Nat → Nat} (h0 : ∀ i, i < n0 → f0 i = g0 i) (n1 : Nat) {f1 g1 : Nat → Nat} (h1 : ∀ i, i < n1 → f1 i = g1 i) : tagA K n0 f0 n1 f1 = tagA L n0 g0 n1 g1 := by
  unfold tagA
  rw [rK_cg h, tks_cg _ _ h0, tks_cg _ _ h1]
theorem tagT_cg (k nn : Nat → Nat) (n0 : Nat) {f0 g0 : Nat → Nat} (h0 : ∀ i, i < n0 → f0 i = g0 i) (n1 : Nat) {f1 g1 : Nat → Nat} (h1 : ∀ i, i < n1 → f1 i = g1 i) : tagT k nn n0 f0 n1 f1 = tagT k nn n0 g0 n1 g1 := by
  unfold tagT
  rw [tagA_cg (fun _ _ => rfl) n0 h0 n1 h1]
theorem seal_lo (k nn : Nat → Nat) (n0 : Nat) (f0 : Nat → Nat) (n1 : Nat) (f1 : Nat → Nat) (i : Nat) (hi : i < n1) : sealB k nn n0 f0 n1 f1 i = xo f1 (ks k 1 nn) i := by unfold sealB cat; rw [if_pos hi]
theorem seal_hi (k nn : Nat → Nat) (n0 : Nat) (f0 : Nat → Nat) (n1 : Nat) (f1 : Nat → Nat) (i : Nat) : sealB k nn n0 f0 n1 f1 (n1 + i) = tagT k nn n0 f0 n1 (xo f1 (ks k 1 nn)) i := by unfold sealB cat; rw [if_neg (by omega), Nat.add_sub_cancel_left]
/-- What is sealed carries its tag. -/
theorem tagged_seal (k nn : Nat → Nat) (n0 : Nat) (f0 : Nat → Nat) (n1 : Nat) (f1 : Nat → Nat) : tagged k nn n0 f0 n1 (sealB k nn n0 f0 n1 f1) = true := by
  unfold tagged
  rw [eqn_iff]
  intro i _
  rw [seal_hi, tagT_cg k nn n0 (fun _ _ => rfl) n1 (fun i hi => seal_lo k nn n0 f0 n1 f1 i hi)]
theorem seal_back (k nn : Nat → Nat) (n0 : Nat) (f0 : Nat → Nat) (n1 : Nat) (f1 : Nat → Nat) (i : Nat) (hi : i < n1) : xo (sealB k nn n0 f0 n1 f1) (ks k 1 nn) i = f1 i := by
  have e := congrFun (xo_xo f1 (ks k 1 nn)) i
  unfold xo at e ⊢
  rw [seal_lo k nn n0 f0 n1 f1 i hi]
  exact e
theorem seal_lt {k nn : Nat → Nat} {n0 : Nat} {f0 : Nat → Nat} {n1 : Nat} {f1 : Nat → Nat} (h : ∀ i, i < n1 → f1 i < 256) (i : Nat) (_hi : i < n1 + 16) : sealB k nn n0 f0 n1 f1 i < 256 := by
  unfold sealB cat
  split
  · exact xo_lt h (ks_lt k 1 nn) i (by assumption)
  · exact tagT_lt _ _ _ _ _ _ _
theorem tag_lit (f0 : Nat → Nat) : tagT z0 z0 1 f0 4 (xo txt (ks z0 1 z0)) 0 = tgB (tagA (lf B0) 1 f0 4 (lf ML)) (fun i => lf B0 (16 + i)) 0 := by
  unfold tagT
  rw [tagA_cg (fun j hj => b0_b j (by omega)) 1 (fun _ _ => rfl) 4 ml_is, tgB_cg _ (fun j hj => b0_b (16 + j) (by omega))]
theorem tag_ab : ¬ tgB (tagA (lf B0) 1 (fun _ => 97) 4 (lf ML)) (fun i => lf B0 (16 + i)) 0 = tgB (tagA (lf B0) 1 (fun _ => 98) 4 (lf ML)) (fun i => lf B0 (16 + i)) 0 := by decide +kernel
theorem tagged_b : tagged z0 z0 1 (fun _ => 98) 4 (sealB z0 z0 1 (fun _ => 97) 4 txt) = false := by
  unfold tagged
  refine eqn_no fun h => ?_
  have h0 := h 0 (by omega)
  rw [seal_hi, tagT_cg z0 z0 1 (fun _ _ => rfl) 4 (fun i hi => seal_lo z0 z0 1 (fun _ => 97) 4 txt i hi), tag_lit, tag_lit] at h0
  exact tag_ab h0
end Go.Proofs.Ytnopkojpgemldaa
