/- The program's tables; begun, New, Write of nothing, Hasher.Sum. -/
import Derived.Test.YtgfeopingompdaaGreatDoorH5
set_option linter.unusedVariables false
set_option linter.unusedSimpArgs false
set_option linter.unnecessarySimpa false
namespace Go.Proofs.YtgfeopingompdaaGreatDoor
open Go.RowKit

def KL : List Nat := [4794697086780616226, 8158064640168781261, 13096744586834688815, 16840607885511220156, 4131703408338449720, 6480981068601479193, 10538285296894168987, 12329834152419229976, 15566598209576043074, 1334009975649890238, 2608012711638119052, 6128411473006802146, 8268148722764581231, 9286055187155687089, 11230858885718282805, 13951009754708518548, 16472876342353939154, 17275323862435702243, 1135362057144423861, 2597628984639134821, 3308224258029322869, 5365058923640841347, 6679025012923562964, 8573033837759648693, 10970295158949994411, 12119686244451234320, 12683024718118986047, 13788192230050041572, 14330467153632333762, 15395433587784984357, 489312712824947311, 1452737877330783856, 2861767655752347644, 3322285676063803686, 5560940570517711597, 5996557281743188959, 7280758554555802590, 8532644243296465576, 9350256976987008742, 10552545826968843579, 11727347734174303076, 12113106623233404929, 14000437183269869457, 14369950271660146224, 15101387698204529176, 15463397548674623760, 17586052441742319658, 1182934255886127544, 1847814050463011016, 2177327727835720531, 2830643537854262169, 3796741975233480872, 4115178125766777443, 5681478168544905931, 6601373596472566643, 7507060721942968483, 8399075790359081724, 8693463985226723168, 9568029438360202098, 10144078919501101548, 10430055236837252648, 11840083180663258601, 13761210420658862357, 14299343276471374635, 14566680578165727644, 15097957966210449927, 16922976911328602910, 17689382322260857208, 500013540394364858, 748580250866718886, 1242879168328830382, 1977374033974150939, 2944078676154940804, 3659926193048069267, 4368137639120453308, 4836135668995329356, 5532061633213252278, 6448918945643986474, 6902733635092675308, 7801388544844847127]
def IVL : List Nat := [7640891576956012808, 13503953896175478587, 4354685564936845355, 11912009170470909681, 5840696475078001361, 11170449401992604703, 2270897969802886507, 6620516959819538809]
def KK (i : Nat) : Nat := KL.getD i 0
def IV (i : Nat) : Nat := IVL.getD i 0
theorem KK_lt : ∀ i, i < 80 → U (KK i) := by unfold U; decide
theorem IV_lt : ∀ i, i < 8 → U (IV i) := by unfold U; decide
/-- The two tables lie where the program keeps them. -/
def Gl (w : World) : Prop := ∃ t0 f0 t1 f1, w.heap[2]? = some (.cells (vC 80 KK) t0 f0) ∧ w.heap[1]? = some (.cells (vC 8 IV) t1 f1)
theorem Gl.lt {w : World} (h : Gl w) : 2 < w.heap.size := by
  obtain ⟨_, _, _, _, h0, h1⟩ := h
  have a := (Array.getElem?_eq_some_iff.1 h0).1
  have b := (Array.getElem?_eq_some_iff.1 h1).1
  omega
theorem Gl.chg {w w' : World} {ch : List Nat} (h : Gl w) (hc : Chg w w' ch) (h0 : ¬ 1 ∈ ch) (h1 : ¬ 2 ∈ ch) : Gl w' := by
  have hl := h.lt
  obtain ⟨t0, f0, t1, f1, e0, e1⟩ := h
  exact ⟨t0, f0, t1, f1, by rw [hc.block 2 (by omega) (by first | exact h0 | exact h1)]; exact e0, by rw [hc.block 1 (by omega) (by first | exact h1 | exact h0)]; exact e1⟩
theorem Gl.kc {w : World} (h : Gl w) : Kc w KK := by
  have hl := h.lt
  obtain ⟨t0, f0, t1, f1, e0, e1⟩ := h
  exact ⟨by omega, KK_lt, fun i hi => by simp [World.cell?, e0]; exact vC_get 80 KK i hi⟩
theorem HInfo : (Tryz.prog.info? 212).map (·.size) = some 138 := by kernel_rfl
theorem S8Info : (Tryz.prog.info? 193).map (·.size) = some 8 := by kernel_rfl
theorem DInfo : (Tryz.prog.info? 145).map (·.size) = some 64 := by kernel_rfl
theorem zHsize : Tryz.zeroCells212.size = 138 := by kernel_rfl
theorem zH : Tryz.zeroCells212 = vC 8 (fun _ => 0) ++ (yC 128 (fun _ => 0) ++ #[.int .u64 0, .bool false]) := by kernel_rfl
/-- Sixty-four bytes 0. -/
def z64 : Array Value := #[.int .u8 0, .int .u8 0, .int .u8 0, .int .u8 0, .int .u8 0, .int .u8 0, .int .u8 0, .int .u8 0, .int .u8 0, .int .u8 0, .int .u8 0, .int .u8 0, .int .u8 0, .int .u8 0, .int .u8 0, .int .u8 0, .int .u8 0, .int .u8 0, .int .u8 0, .int .u8 0, .int .u8 0, .int .u8 0, .int .u8 0, .int .u8 0, .int .u8 0, .int .u8 0, .int .u8 0, .int .u8 0, .int .u8 0, .int .u8 0, .int .u8 0, .int .u8 0, .int .u8 0, .int .u8 0, .int .u8 0, .int .u8 0, .int .u8 0, .int .u8 0, .int .u8 0, .int .u8 0, .int .u8 0, .int .u8 0, .int .u8 0, .int .u8 0, .int .u8 0, .int .u8 0, .int .u8 0, .int .u8 0, .int .u8 0, .int .u8 0, .int .u8 0, .int .u8 0, .int .u8 0, .int .u8 0, .int .u8 0, .int .u8 0, .int .u8 0, .int .u8 0, .int .u8 0, .int .u8 0, .int .u8 0, .int .u8 0, .int .u8 0, .int .u8 0]
theorem zD : z64 = yC 64 (fun _ => 0) := by kernel_rfl
theorem wpList_build_c {P : Program} {ops : Array Oper} {rest : List Oper} {o : Oper} {a : Act} {w : World} {Q : Exit → Act → World → Prop} (hg : o.guard = none) (t : TypeId) (parts : Array (Nat × Operand)) (ho : o.op = .build t parts)
    (cells : Array Value) (hb : P.built t (parts.map fun (i, x) => (i, a.eval x)).toList = some cells) (h : wpList P ops Q rest (a.put o.dst (.agg cells)) w) : wpList P ops Q (o :: rest) a w :=
  wpList_build hg t parts ho (by rw [hb]; rfl) (by rw [hb]; exact h)
theorem builtH (s : Nat → Nat) : Tryz.prog.built 212 [(0, .agg (vC 8 s)), (3, .bool true)] = some (hC s (fun _ => 0) 0) := by kernel_rfl
theorem zR : Tryz.zeroCells246 = yC 144 (fun _ => 0) := by kernel_rfl

set_option maxHeartbeats 4000000 in
set_option maxRecDepth 100000 in
theorem begun_s (w : World) (hG : Gl w) : Calls Tryz.prog 103 #[] w fun e w' => e = .returned (.agg (hC IV (fun _ => 0) 0)) ∧ Chg w w' [] := by
  have hl := hG.lt
  have A := Blk.new w Tryz.zeroCells212 212
  have G1 := hG.chg ((Chg.refl w []).alloc (.cells Tryz.zeroCells212 212)) (by simp) (by simp)
  obtain ⟨t0, f0, t1, f1, e0, e1⟩ := G1
  go_enter Tryz.func103, Tryz.ntmps103
  go_wp2_with (first | (refine wpList_load_row rfl 193 _ rfl 1 rfl t1 _ f1 _ e1 Tryz.underlying193 rfl (by rw [vC_size]; exact S8Info) ?_) | (refine wpList_build_c rfl 212 #[(0, .tmp 1), (3, .const (.bool true))] rfl (hC IV (fun _ => 0) 0) (by go_simp; exact builtH IV) ?_) | (refine wpList_store_row rfl 212 _ _ rfl w.heap.size _ rfl rfl 212 _ A (by rw [hC_size]; exact HInfo) (by rw [hC_size]; exact zHsize) (hC_one _ _ _) ?_))
  exact bodyPost_ret (results_cell_row Tryz.results103 _ _ w.heap.size 212 (hC IV (fun _ => 0) 0) (0, 0) _ rfl (A.setRow _) Tryz.underlying212 rfl (by rw [hC_size]; exact HInfo)) rfl ⟨rfl, ((Chg.refl w []).alloc _).setRowNew (Nat.le_refl _) _⟩
set_option maxHeartbeats 4000000 in
set_option maxRecDepth 100000 in
theorem Write_nil (h n : Nat) (s t : Nat → Nat) (w : World) (hn : U n) (hh : Blk w h (hC s t n) 212) :
    Calls Tryz.prog 104 #[.pointer (some ⟨h, 0, none⟩), .slice none 0 0] w fun e w' => e = .returned (.tuple #[]) ∧ Chg w w' [h] ∧ Blk w' h (hC s t n) 212 := by
  unfold U at hn
  obtain ⟨r, hr⟩ : ∃ r, n % 128 = r := ⟨_, rfl⟩
  have hr1 : r < 128 := by omega
  have e1 : (n : Int).tmod 128 = (r : Int) := by rw [Int.tmod_eq_emod_of_nonneg (by omega)]; omega
  have e2 : IntKind.u64.wrap (n : Int) = (n : Int) := by rw [IntKind.wrap_u64]; omega
  clear hr
  have c1 := hh.cell 136
  have c2 := hh.cell 137
  rw [hC_taken] at c1
  rw [hC_made] at c2
  have f1' := hh.frozen 136
  have HB := (hh.setCell 136 (.int .u64 (n : Int))).to (hC_take s t n n)
  have CV := (Chg.refl w [h]).setIn (k := h) (by simp) 136 (.int .u64 (n : Int))
  have H8 : Hid (hC s t n = vC 8 s ++ (yC 128 t ++ #[.int .u64 n, .bool true])) := by show _ = _; unfold hC; rfl
  rw [H8.out] at HB
  go_enter Tryz.func104, Tryz.ntmps104
  by_cases hr0 : r = 0
  · subst hr0
    go_wp2_with fail
    go_loopw [1] (fun b wr => b = .slice none 0 0 ∧ Blk wr h (vC 8 s ++ (yC 128 t ++ #[.int .u64 n, .bool true])) 212 ∧ Chg w wr [h]) (fun _ _ => 0)
    case atStart => exact ⟨rfl, HB, CV⟩
    case round =>
      clear HB CV
      obtain ⟨rfl, HB, CV⟩ := hrel
      go_wp2_with (refine copy_y rfl (.tmp 69) (.tmp 70) 29 29 rfl 5 Tryz.underlying29 u8Info h 8 128 128 none 0 0 rfl rfl (vC 8 _) 128 t _ 212 HB 0 0 (fun _ => 0) (fun hx => absurd hx (by omega)) rfl (fun hx => absurd hx (by omega)) (by omega) ?_; rw [lay_zero]; intro v3 B3 k3)
      go_end0
      exact ⟨rfl, CV.trans1 k3, by rw [H8.out]; exact B3⟩
  · have hrI : (0 : Int) < (r : Int) := by omega
    have hrJ : (r : Int) ≤ 128 := by omega
    have hrK : (r : Int) < 128 := by omega
    have e4 : IntKind.i64.wrap (r : Int) = (r : Int) := by rw [IntKind.wrap_i64]; omega
    have e5 : IntKind.u64.wrap (r : Int) = (r : Int) := by rw [IntKind.wrap_u64]; omega
    go_wp2_with (refine copy_y rfl (.tmp 36) (.tmp 37) 29 29 rfl 5 Tryz.underlying29 u8Info h (8 + r) (128 - r) (128 - r) none 0 0 rfl rfl (vC 8 s) 128 t _ 212 HB 0 0 (fun _ => 0) (fun hx => absurd hx (by omega)) (Nat.zero_min _).symm (fun hx => absurd hx (by omega)) (by omega) ?_; rw [lay_zero]; intro v1 B1 k1)
    refine bodyPost_ret (results_none rfl _ _ _) rfl ?_
    exact ⟨rfl, CV.trans1 k1, by rw [H8.out]; exact B1⟩
end Go.Proofs.YtgfeopingompdaaGreatDoor
