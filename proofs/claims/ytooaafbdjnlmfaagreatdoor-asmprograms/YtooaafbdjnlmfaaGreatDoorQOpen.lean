/- An instruction that is handed in, opened; the tables as the program's text lays them. -/
import Derived.Test.YtooaafbdjnlmfaaGreatDoorQBits
import Derived.Test.YtooaafbdjnlmfaaGreatDoorQFit
import Derived.ProofKit
import Derived.OpenShut
import Derived.LaidMore
import Derived.Stop.Joined
import Derived.Lib.LaidTab
import Derived.Stop.LaidErr
import Derived.SevenTiedAt
namespace Go.Proofs.YtooaafbdjnlmfaaGreatDoor
open Go.ChangeShapes Go.WideShapes Go.ChangeAt Go.RowKit
set_option linter.unusedVariables false
set_option maxRecDepth 100000 in
theorem cellsOf23 : Tryz.prog.cellsOf 23 = 8 := by kernel_rfl
set_option maxRecDepth 100000 in
theorem cellsOf3 : Tryz.prog.cellsOf 3 = 1 := by kernel_rfl
set_option maxRecDepth 100000 in
theorem cellsOf2 : Tryz.prog.cellsOf 2 = 1 := by kernel_rfl
set_option maxRecDepth 100000 in
theorem cellsOf4 : Tryz.prog.cellsOf 4 = 1 := by kernel_rfl
set_option maxRecDepth 100000 in
theorem list_eight {α : Type} (l : List α) (h : l.length = 8) : ∃ a b c d e f g i, l = [a, b, c, d, e, f, g, i] := by
  match l, h with
  | [a, b, c, d, e, f, g, i], _ => exact ⟨a, b, c, d, e, f, g, i, rfl⟩
set_option maxRecDepth 100000 in
theorem open_instrL {H : Type} {enc : TypeId × Value → H} {W : World} {held : Bool} {n : Nat} {cs : List Value} {x : DataW H × List MemPlace} (h : DataW.trod enc Tryz.prog W 0 (fun _ => true) held n 23 cs = some x) :
    ∃ (op rd rs1 rs2 imm csr : Int) (aq rl : Bool), cs = (instrC op rd rs1 rs2 imm csr aq rl).toList ∧ -9223372036854775808 ≤ imm ∧ imm < 9223372036854775808 := by
  obtain ⟨xs, m, _, _, hl, hlen, hf⟩ := DataW.trod_struct Tryz.underlying23 h
  rw [cellsOf23] at hl
  obtain ⟨c0, c1, c2, c3, c4, c5, c6, c7, rfl⟩ := list_eight cs hl
  obtain ⟨y0, y1, y2, y3, y4, y5, y6, y7, rfl⟩ := list_eight xs hlen
  have h0 := hf 0 _ rfl
  have h1 := hf 1 _ rfl
  have h2 := hf 2 _ rfl
  have h3 := hf 3 _ rfl
  have h4 := hf 4 _ rfl
  have h5 := hf 5 _ rfl
  have h6 := hf 6 _ rfl
  have h7 := hf 7 _ rfl
  simp [cellsOf3, cellsOf2, cellsOf4] at h0 h1 h2 h3 h4 h5 h6 h7
  obtain ⟨z0, e0, _, w0⟩ := DataW.trod_int Tryz.underlying3 h0
  obtain ⟨z1, e1, _, w1⟩ := DataW.trod_int Tryz.underlying3 h1
  obtain ⟨z2, e2, _, w2⟩ := DataW.trod_int Tryz.underlying3 h2
  obtain ⟨z3, e3, _, w3⟩ := DataW.trod_int Tryz.underlying3 h3
  obtain ⟨z4, e4, _, w4⟩ := DataW.trod_int Tryz.underlying2 h4
  obtain ⟨z5, e5, _, w5⟩ := DataW.trod_int Tryz.underlying3 h5
  obtain ⟨z6, e6, _⟩ := DataW.trod_bool Tryz.underlying4 h6
  obtain ⟨z7, e7, _⟩ := DataW.trod_bool Tryz.underlying4 h7
  simp at e0 e1 e2 e3 e4 e5 e6 e7
  have b := bounds_i64 w4
  subst e0 e1 e2 e3 e4 e5 e6 e7
  exact ⟨z0, z1, z2, z3, z4, z5, z6, z7, rfl, by omega, by omega⟩
set_option maxRecDepth 100000 in
theorem open_agg {P : Program} {W : World} {r : Reach} {b0 : Nat} {t : TypeId} {fs : Array Field} {v : Value} (ht : P.underlying t = some (.struct fs)) (hv : Value.okWide P W r b0 t v) : ∃ cs, v = .agg cs := by
  obtain ⟨cs, rfl, _⟩ : ∃ cs, v = .agg cs ∧ cs.size = P.cellsOf t ∧ Row.okWide P W r b0 t cs := by
    simpa [Value.okWide, ht] using hv
  exact ⟨cs, rfl⟩
set_option maxRecDepth 100000 in
theorem open_instr {H : Type} {enc : TypeId × Value → H} {W : World} {held : Bool} {r : Reach} {b0 : Nat} {v : Value} {d : DataW H} {p : List MemPlace} (hv : Value.okWide Tryz.prog W r b0 23 v) (h : DataW.Trod enc Tryz.prog W 0 (fun _ => true) held 23 v d p) :
    ∃ (op rd rs1 rs2 imm csr : Int) (aq rl : Bool), v = .agg (instrC op rd rs1 rs2 imm csr aq rl) ∧ -9223372036854775808 ≤ imm ∧ imm < 9223372036854775808 := by
  obtain ⟨cs, rfl⟩ := open_agg Tryz.underlying23 hv
  obtain ⟨fuel, hf⟩ := h
  obtain ⟨op, rd, rs1, rs2, imm, csr, aq, rl, ho, h1, h2⟩ := open_instrL hf
  refine ⟨op, rd, rs1, rs2, imm, csr, aq, rl, ?_, h1, h2⟩
  simp only [Value.cells] at ho
  rw [show cs = instrC op rd rs1 rs2 imm csr aq rl from Array.toList_inj.1 ho]
set_option maxRecDepth 100000 in
theorem gParts : Tryz.prog.globalNamed "vireo/inst.parts" = some 4 := by kernel_rfl
set_option maxRecDepth 100000 in
theorem gFixed : Tryz.prog.globalNamed "vireo/inst.fixed" = some 1 := by kernel_rfl
set_option maxRecDepth 100000 in
theorem gForms : Tryz.prog.globalNamed "vireo/inst.forms" = some 0 := by kernel_rfl
set_option maxRecDepth 100000 in
theorem gWords : Tryz.prog.globalNamed "vireo/inst.words" = some 2 := by kernel_rfl
set_option maxRecDepth 100000 in
theorem tParts : (Tryz.prog.globals[4]?).map (·.type) = some 126 := by kernel_rfl
set_option maxRecDepth 100000 in
theorem tFixed : (Tryz.prog.globals[1]?).map (·.type) = some 86 := by kernel_rfl
set_option maxRecDepth 100000 in
theorem tForms : (Tryz.prog.globals[0]?).map (·.type) = some 85 := by kernel_rfl
set_option maxRecDepth 100000 in
theorem tWords : (Tryz.prog.globals[2]?).map (·.type) = some 87 := by kernel_rfl
set_option maxRecDepth 100000 in
theorem cellsOf5 : Tryz.prog.cellsOf 5 = 1 := by kernel_rfl
set_option maxRecDepth 100000 in
theorem cellsOf37 : Tryz.prog.cellsOf 37 = 1 := by kernel_rfl
set_option maxRecDepth 100000 in
theorem cellsOf84 : Tryz.prog.cellsOf 84 = 1 := by kernel_rfl
set_option maxRecDepth 100000 in
theorem cellsOf126 : Tryz.prog.cellsOf 126 = 17 := by kernel_rfl
set_option maxRecDepth 100000 in
theorem cellsOf86 : Tryz.prog.cellsOf 86 = 17 := by kernel_rfl
set_option maxRecDepth 100000 in
theorem cellsOf85 : Tryz.prog.cellsOf 85 = 99 := by kernel_rfl
set_option maxRecDepth 100000 in
theorem cellsOf87 : Tryz.prog.cellsOf 87 = 99 := by kernel_rfl
def intsOf (l : List Nat) : List Int := l.map fun (n : Nat) => (n : Int)
set_option maxRecDepth 100000 in
theorem intsOf_get (l : List Nat) (i : Nat) : (intsOf l).getD i 0 = ((l.getD i 0 : Nat) : Int) := by
  unfold intsOf
  rw [List.getD_eq_getElem?_getD, List.getD_eq_getElem?_getD, List.getElem?_map]
  cases l[i]? <;> rfl
set_option maxRecDepth 100000 in
theorem cell_lt {W : World} {b i : Nat} {v : Value} (h : W.cell? ⟨b, i, none⟩ = some v) : b < W.heap.size := by
  refine Nat.lt_of_not_le fun hl => ?_
  have : W.heap[b]? = none := Array.getElem?_eq_none hl
  simp [World.cell?, this] at h
theorem words_at {W : World} (h : Lib.TabIs Tryz.prog W "vireo/inst.words" .u32 (intsOf wordsT)) : ∀ i, i < 99 → W.cell? ⟨2, i, none⟩ = some (.int .u32 ((wordsT.getD i 0 : Nat) : Int)) := fun i hi => by
  have := h.cell gWords i (by rw [show (intsOf wordsT).length = 99 from by kernel_rfl]; exact hi)
  rw [intsOf_get] at this; exact this
theorem forms_at {W : World} (h : Lib.TabIs Tryz.prog W "vireo/inst.forms" .u8 (intsOf formsT)) : ∀ i, i < 99 → W.cell? ⟨0, i, none⟩ = some (.int .u8 ((formsT.getD i 0 : Nat) : Int)) := fun i hi => by
  have := h.cell gForms i (by rw [show (intsOf formsT).length = 99 from by kernel_rfl]; exact hi)
  rw [intsOf_get] at this; exact this
theorem fixed_at {W : World} (h : Lib.TabIs Tryz.prog W "vireo/inst.fixed" .u32 (intsOf fixedT)) : ∀ i, i < 17 → W.cell? ⟨1, i, none⟩ = some (.int .u32 ((fixedT.getD i 0 : Nat) : Int)) := fun i hi => by
  have := h.cell gFixed i (by rw [show (intsOf fixedT).length = 17 from by kernel_rfl]; exact hi)
  rw [intsOf_get] at this; exact this
theorem parts_at {W : World} (h : Lib.TabIs Tryz.prog W "vireo/inst.parts" .u8 (intsOf partsT)) : ∀ i, i < 17 → W.cell? ⟨4, i, none⟩ = some (.int .u8 ((partsT.getD i 0 : Nat) : Int)) := fun i hi => by
  have := h.cell gParts i (by rw [show (intsOf partsT).length = 17 from by kernel_rfl]; exact hi)
  rw [intsOf_get] at this; exact this
theorem tabs_of {W : World} (h1 : Lib.TabIs Tryz.prog W "vireo/inst.parts" .u8 (intsOf partsT)) (h3 : Lib.TabIs Tryz.prog W "vireo/inst.forms" .u8 (intsOf formsT)) : Tabs W :=
  ⟨trivial, forms_at h3, trivial, parts_at h1, cell_lt (parts_at h1 0 (by omega))⟩
end Go.Proofs.YtooaafbdjnlmfaaGreatDoor
