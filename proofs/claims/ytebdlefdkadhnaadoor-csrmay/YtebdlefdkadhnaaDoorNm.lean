/- The program's table of registers as the statements list it; its calls Name and Known of layer 8. -/
import Derived.Test.YtebdlefdkadhnaaDoorIx
import Derived.ProofKit
import Derived.OpenShut
import Derived.Lib.LaidTab
import Derived.LaidMore
import Derived.Deep.Slices
namespace Go.Proofs.YtebdlefdkadhnaaDoor
open Go.ChangeShapes Go.WideShapes Go.ChangeAt Go.RowKit
set_option linter.unusedVariables false
set_option linter.unusedSimpArgs false
def regL : List (Int × List UInt8) := [(256, [115, 115, 116, 97, 116, 117, 115]), (260, [115, 105, 101]), (261, [115, 116, 118, 101, 99]), (262, [115, 99, 111, 117, 110, 116, 101, 114, 101, 110]), (320, [115, 115, 99, 114, 97, 116, 99, 104]), (321, [115, 101, 112, 99]), (322, [115, 99, 97, 117, 115, 101]), (323, [115, 116, 118, 97, 108]), (324, [115, 105, 112]), (384, [115, 97, 116, 112]), (768, [109, 115, 116, 97, 116, 117, 115]), (769, [109, 105, 115, 97]), (770, [109, 101, 100, 101, 108, 101, 103]), (771, [109, 105, 100, 101, 108, 101, 103]), (772, [109, 105, 101]), (773, [109, 116, 118, 101, 99]), (774, [109, 99, 111, 117, 110, 116, 101, 114, 101, 110]), (832, [109, 115, 99, 114, 97, 116, 99, 104]), (833, [109, 101, 112, 99]), (834, [109, 99, 97, 117, 115, 101]), (835, [109, 116, 118, 97, 108]), (836, [109, 105, 112]), (2816, [109, 99, 121, 99, 108, 101]), (2818, [109, 105, 110, 115, 116, 114, 101, 116]), (3072, [99, 121, 99, 108, 101]), (3073, [116, 105, 109, 101]), (3074, [105, 110, 115, 116, 114, 101, 116]), (3857, [109, 118, 101, 110, 100, 111, 114, 105, 100]), (3858, [109, 97, 114, 99, 104, 105, 100]), (3859, [109, 105, 109, 112, 105, 100]), (3860, [109, 104, 97, 114, 116, 105, 100])]
/-- a table of numbers and names as a row lists it -/
def pairData {H : Type} (zs : List (Int × List UInt8)) : DataW H := .agg (zs.map fun z => .agg [.lit (.int .i64 z.1), .lit (.string z.2)])
def pairCells (zs : List (Int × List UInt8)) : List Value := zs.flatMap fun z => [Value.int .i64 z.1, Value.string ⟨z.2.toArray⟩]
theorem pairCells_get (zs : List (Int × List UInt8)) : (pairCells zs).length = 2 * zs.length ∧ ∀ i, i < zs.length → (pairCells zs)[2 * i]? = (zs[i]?).map (fun z => Value.int .i64 z.1) ∧ (pairCells zs)[2 * i + 1]? = (zs[i]?).map (fun z => Value.string ⟨z.2.toArray⟩) := by
  induction zs with
  | nil => exact ⟨rfl, fun i h => absurd h (Nat.not_lt_zero _)⟩
  | cons z zs ih =>
    have e : pairCells (z :: zs) = Value.int .i64 z.1 :: Value.string ⟨z.2.toArray⟩ :: pairCells zs := rfl
    refine ⟨by rw [e]; simp [ih.1]; omega, fun i hi => ?_⟩
    rw [e]
    cases i with
    | zero => exact ⟨rfl, rfl⟩
    | succ i =>
      have := ih.2 i (by simp at hi; omega)
      rw [show 2 * (i + 1) = 2 * i + 1 + 1 from by omega]
      simpa using this
theorem elem_of {H : Type} {enc : TypeId × Value → H} {w : World} {base : Nat} {sp : Nat → Bool} {held : Bool} {fuel : Nat} {cs : List Value} {z : Int × List UInt8} {p : List MemPlace}
    (h : DataW.trod enc Tryd.prog w base sp held fuel 67 cs = some (.agg [.lit (.int .i64 z.1), .lit (.string z.2)], p)) : cs = [Value.int .i64 z.1, Value.string ⟨z.2.toArray⟩] := by
  obtain ⟨y0, y1, n, he, hl, h0, h1⟩ := trod_struct2 Tryd.underlying67 h
  rw [show Tryd.prog.cellsOf 67 = 2 from by kernel_rfl] at hl
  match cs, hl with
  | [c0, c1], _ =>
    simp [show Tryd.prog.cellsOf 3 = 1 from by kernel_rfl, show Tryd.prog.cellsOf 9 = 1 from by kernel_rfl] at h0 h1
    obtain ⟨x0, e0, d0, _⟩ := DataW.trod_int Tryd.underlying3 h0
    obtain ⟨x1, e1, d1, _⟩ := DataW.trod_string Tryd.underlying9 h1
    simp at e0 e1
    subst e0 e1 d0 d1
    simp at he
    obtain ⟨⟨a1, a2⟩, _⟩ := he
    rw [a1, a2]
theorem cells_of_pairs {H : Type} {enc : TypeId × Value → H} {w : World} {base : Nat} {sp : Nat → Bool} {held : Bool} {fuel : Nat} {cs : List Value} {zs : List (Int × List UInt8)} {p : List MemPlace}
    (hzl : zs.length = 31) (h : DataW.trod enc Tryd.prog w base sp held fuel 68 cs = some (pairData zs, p)) : cs = pairCells zs := by
  cases fuel with
  | zero => simp [DataW.trod] at h
  | succ fuel =>
    simp only [DataW.trod, Tryd.underlying68, show Tryd.prog.cellsOf 67 = 2 from by kernel_rfl, show Tryd.prog.cellsOf 68 = 62 from by kernel_rfl] at h
    split at h
    · rename_i hl
      obtain ⟨xs, hm, hx⟩ := Option.map_eq_some_iff.1 h
      have hxs : xs.map (·.1) = zs.map fun z => (DataW.agg [.lit (.int .i64 z.1), .lit (.string z.2)] : DataW H) := by
        have := congrArg Prod.fst hx
        simpa [pairData] using this
      have hxl : xs.length = 31 := by simpa using Lib.mapM_length hm
      have hcl : cs.length = 62 := by simpa using hl
      have key : ∀ i, i < 31 → cs[2 * i]? = (zs[i]?).map (fun z => Value.int .i64 z.1) ∧ cs[2 * i + 1]? = (zs[i]?).map (fun z => Value.string ⟨z.2.toArray⟩) := by
        intro i hi
        obtain ⟨b, hb, hf⟩ := Lib.mapM_at hm i i (by simp [hi])
        have hz : ∃ z, zs[i]? = some z := ⟨zs[i]'(by omega), by simp [hzl, hi]⟩
        obtain ⟨z, hz⟩ := hz
        have h2 : (xs.map (·.1))[i]? = some b.1 := by simp [hb]
        rw [hxs] at h2
        simp only [List.getElem?_map, hz, Option.map_some, Option.some.injEq] at h2
        obtain ⟨b1, b2⟩ := b
        simp only at h2
        rw [← h2] at hf
        have hc := elem_of hf
        rw [hz]
        have q0 := congrArg (·[0]?) hc
        have q1 := congrArg (·[1]?) hc
        simp [List.getElem?_take, List.getElem?_drop] at q0 q1
        rw [Nat.mul_comm 2 i]
        exact ⟨q0, q1⟩
      apply List.ext_getElem?
      intro j
      by_cases hj : j < 62
      · obtain ⟨i, hi⟩ : ∃ i, j = 2 * i ∨ j = 2 * i + 1 := ⟨j / 2, by omega⟩
        have k1 := key i (by omega)
        have k2 := (pairCells_get zs).2 i (by omega)
        rcases hi with rfl | rfl
        · rw [k1.1, k2.1]
        · rw [k1.2, k2.2]
      · rw [List.getElem?_eq_none (by omega), List.getElem?_eq_none (by rw [(pairCells_get zs).1]; omega)]
    · cases h
theorem gRegs : Tryd.prog.globalNamed "vireo/csr.registers" = some 0 := by kernel_rfl
theorem tRegs : (Tryd.prog.globals[0]?).map (·.type) = some 68 := by kernel_rfl
theorem regL_len : regL.length = 31 := by rfl
theorem regs_of_head {W : World} {rest : List (String × DataW Unit)} (h : laidMet Tryd.prog (("vireo/csr.registers", pairData regL) :: rest) W) : W.var? Tryd.prog "vireo/csr.registers" = some (pairCells regL).toArray := by
  obtain ⟨ps, ⟨g', t', cs, fuel, p, q, hg', ht', hvar, hd, _, _⟩, _⟩ := h
  obtain rfl := Option.some.inj (gRegs.symm.trans hg')
  obtain rfl := Option.some.inj (tRegs.symm.trans ht')
  rw [hvar, ← cells_of_pairs regL_len hd]
def pN (i : Nat) : Int := (regL.getD i (0, [])).1
def pName (i : Nat) : ByteArray := ⟨((regL.getD i (0, [])).2).toArray⟩
def regC : Array Value := (pairCells regL).toArray
/-- the registers lie where their variable is -/
def Regs (w : World) : Prop := ∃ t fr, w.heap[0]? = some (.cells regC t fr)
theorem Regs.lt {w : World} (h : Regs w) : 0 < w.heap.size := by obtain ⟨t, fr, h⟩ := h; exact (Array.getElem?_eq_some_iff.1 h).1
theorem Regs.below {w w' : World} (h : Regs w) (hb : Below w.heap.size w w') : Regs w' := by
  have h0 := h.lt
  obtain ⟨t, fr, h⟩ := h
  exact ⟨t, fr, (hb.block 0 h0).trans h⟩
theorem Regs.upon {b : Nat} {w w' : World} (h : Regs w) (hb : Upon b w w') (hn : b ≠ 0) : Regs w' := by
  have h0 := h.lt
  obtain ⟨t, fr, h⟩ := h
  exact ⟨t, fr, (hb.2 0 h0 (fun e => hn e.symm)).trans h⟩
theorem regs_of {W : World} {rest : List (String × DataW Unit)} (h : laidMet Tryd.prog (("vireo/csr.registers", pairData regL) :: rest) W) : Regs W := by
  have hv := regs_of_head h
  unfold World.var? at hv
  rw [gRegs] at hv
  simp only [Option.bind_some] at hv
  split at hv
  · rename_i cs t fr he
    cases hv
    exact ⟨t, fr, he⟩
  · cases hv
theorem info68 : (Tryd.prog.info? 68).map (·.size) = some regC.size := by kernel_rfl
theorem idx_0 (w : World) : (Instr.index 68 (.agg regC) (.int .i64 (0 : Nat))).run Tryd.prog w = .ok (.agg #[.int .i64 (pN 0), .string (pName 0)]) w := by kernel_rfl
theorem idx_1 (w : World) : (Instr.index 68 (.agg regC) (.int .i64 (1 : Nat))).run Tryd.prog w = .ok (.agg #[.int .i64 (pN 1), .string (pName 1)]) w := by kernel_rfl
theorem idx_2 (w : World) : (Instr.index 68 (.agg regC) (.int .i64 (2 : Nat))).run Tryd.prog w = .ok (.agg #[.int .i64 (pN 2), .string (pName 2)]) w := by kernel_rfl
theorem idx_3 (w : World) : (Instr.index 68 (.agg regC) (.int .i64 (3 : Nat))).run Tryd.prog w = .ok (.agg #[.int .i64 (pN 3), .string (pName 3)]) w := by kernel_rfl
theorem idx_4 (w : World) : (Instr.index 68 (.agg regC) (.int .i64 (4 : Nat))).run Tryd.prog w = .ok (.agg #[.int .i64 (pN 4), .string (pName 4)]) w := by kernel_rfl
theorem idx_5 (w : World) : (Instr.index 68 (.agg regC) (.int .i64 (5 : Nat))).run Tryd.prog w = .ok (.agg #[.int .i64 (pN 5), .string (pName 5)]) w := by kernel_rfl
theorem idx_6 (w : World) : (Instr.index 68 (.agg regC) (.int .i64 (6 : Nat))).run Tryd.prog w = .ok (.agg #[.int .i64 (pN 6), .string (pName 6)]) w := by kernel_rfl
theorem idx_7 (w : World) : (Instr.index 68 (.agg regC) (.int .i64 (7 : Nat))).run Tryd.prog w = .ok (.agg #[.int .i64 (pN 7), .string (pName 7)]) w := by kernel_rfl
theorem idx_8 (w : World) : (Instr.index 68 (.agg regC) (.int .i64 (8 : Nat))).run Tryd.prog w = .ok (.agg #[.int .i64 (pN 8), .string (pName 8)]) w := by kernel_rfl
theorem idx_9 (w : World) : (Instr.index 68 (.agg regC) (.int .i64 (9 : Nat))).run Tryd.prog w = .ok (.agg #[.int .i64 (pN 9), .string (pName 9)]) w := by kernel_rfl
theorem idx_10 (w : World) : (Instr.index 68 (.agg regC) (.int .i64 (10 : Nat))).run Tryd.prog w = .ok (.agg #[.int .i64 (pN 10), .string (pName 10)]) w := by kernel_rfl
theorem idx_11 (w : World) : (Instr.index 68 (.agg regC) (.int .i64 (11 : Nat))).run Tryd.prog w = .ok (.agg #[.int .i64 (pN 11), .string (pName 11)]) w := by kernel_rfl
theorem idx_12 (w : World) : (Instr.index 68 (.agg regC) (.int .i64 (12 : Nat))).run Tryd.prog w = .ok (.agg #[.int .i64 (pN 12), .string (pName 12)]) w := by kernel_rfl
theorem idx_13 (w : World) : (Instr.index 68 (.agg regC) (.int .i64 (13 : Nat))).run Tryd.prog w = .ok (.agg #[.int .i64 (pN 13), .string (pName 13)]) w := by kernel_rfl
theorem idx_14 (w : World) : (Instr.index 68 (.agg regC) (.int .i64 (14 : Nat))).run Tryd.prog w = .ok (.agg #[.int .i64 (pN 14), .string (pName 14)]) w := by kernel_rfl
theorem idx_15 (w : World) : (Instr.index 68 (.agg regC) (.int .i64 (15 : Nat))).run Tryd.prog w = .ok (.agg #[.int .i64 (pN 15), .string (pName 15)]) w := by kernel_rfl
theorem idx_16 (w : World) : (Instr.index 68 (.agg regC) (.int .i64 (16 : Nat))).run Tryd.prog w = .ok (.agg #[.int .i64 (pN 16), .string (pName 16)]) w := by kernel_rfl
theorem idx_17 (w : World) : (Instr.index 68 (.agg regC) (.int .i64 (17 : Nat))).run Tryd.prog w = .ok (.agg #[.int .i64 (pN 17), .string (pName 17)]) w := by kernel_rfl
theorem idx_18 (w : World) : (Instr.index 68 (.agg regC) (.int .i64 (18 : Nat))).run Tryd.prog w = .ok (.agg #[.int .i64 (pN 18), .string (pName 18)]) w := by kernel_rfl
theorem idx_19 (w : World) : (Instr.index 68 (.agg regC) (.int .i64 (19 : Nat))).run Tryd.prog w = .ok (.agg #[.int .i64 (pN 19), .string (pName 19)]) w := by kernel_rfl
theorem idx_20 (w : World) : (Instr.index 68 (.agg regC) (.int .i64 (20 : Nat))).run Tryd.prog w = .ok (.agg #[.int .i64 (pN 20), .string (pName 20)]) w := by kernel_rfl
theorem idx_21 (w : World) : (Instr.index 68 (.agg regC) (.int .i64 (21 : Nat))).run Tryd.prog w = .ok (.agg #[.int .i64 (pN 21), .string (pName 21)]) w := by kernel_rfl
theorem idx_22 (w : World) : (Instr.index 68 (.agg regC) (.int .i64 (22 : Nat))).run Tryd.prog w = .ok (.agg #[.int .i64 (pN 22), .string (pName 22)]) w := by kernel_rfl
theorem idx_23 (w : World) : (Instr.index 68 (.agg regC) (.int .i64 (23 : Nat))).run Tryd.prog w = .ok (.agg #[.int .i64 (pN 23), .string (pName 23)]) w := by kernel_rfl
theorem idx_24 (w : World) : (Instr.index 68 (.agg regC) (.int .i64 (24 : Nat))).run Tryd.prog w = .ok (.agg #[.int .i64 (pN 24), .string (pName 24)]) w := by kernel_rfl
theorem idx_25 (w : World) : (Instr.index 68 (.agg regC) (.int .i64 (25 : Nat))).run Tryd.prog w = .ok (.agg #[.int .i64 (pN 25), .string (pName 25)]) w := by kernel_rfl
theorem idx_26 (w : World) : (Instr.index 68 (.agg regC) (.int .i64 (26 : Nat))).run Tryd.prog w = .ok (.agg #[.int .i64 (pN 26), .string (pName 26)]) w := by kernel_rfl
theorem idx_27 (w : World) : (Instr.index 68 (.agg regC) (.int .i64 (27 : Nat))).run Tryd.prog w = .ok (.agg #[.int .i64 (pN 27), .string (pName 27)]) w := by kernel_rfl
theorem idx_28 (w : World) : (Instr.index 68 (.agg regC) (.int .i64 (28 : Nat))).run Tryd.prog w = .ok (.agg #[.int .i64 (pN 28), .string (pName 28)]) w := by kernel_rfl
theorem idx_29 (w : World) : (Instr.index 68 (.agg regC) (.int .i64 (29 : Nat))).run Tryd.prog w = .ok (.agg #[.int .i64 (pN 29), .string (pName 29)]) w := by kernel_rfl
theorem idx_30 (w : World) : (Instr.index 68 (.agg regC) (.int .i64 (30 : Nat))).run Tryd.prog w = .ok (.agg #[.int .i64 (pN 30), .string (pName 30)]) w := by kernel_rfl
theorem idx_at (k : Nat) (hk : k < 31) (w : World) : (Instr.index 68 (.agg regC) (.int .i64 (k : Int))).run Tryd.prog w = .ok (.agg #[.int .i64 (pN k), .string (pName k)]) w := by
  match k, hk with
  | 0, _ => exact idx_0 w
  | 1, _ => exact idx_1 w
  | 2, _ => exact idx_2 w
  | 3, _ => exact idx_3 w
  | 4, _ => exact idx_4 w
  | 5, _ => exact idx_5 w
  | 6, _ => exact idx_6 w
  | 7, _ => exact idx_7 w
  | 8, _ => exact idx_8 w
  | 9, _ => exact idx_9 w
  | 10, _ => exact idx_10 w
  | 11, _ => exact idx_11 w
  | 12, _ => exact idx_12 w
  | 13, _ => exact idx_13 w
  | 14, _ => exact idx_14 w
  | 15, _ => exact idx_15 w
  | 16, _ => exact idx_16 w
  | 17, _ => exact idx_17 w
  | 18, _ => exact idx_18 w
  | 19, _ => exact idx_19 w
  | 20, _ => exact idx_20 w
  | 21, _ => exact idx_21 w
  | 22, _ => exact idx_22 w
  | 23, _ => exact idx_23 w
  | 24, _ => exact idx_24 w
  | 25, _ => exact idx_25 w
  | 26, _ => exact idx_26 w
  | 27, _ => exact idx_27 w
  | 28, _ => exact idx_28 w
  | 29, _ => exact idx_29 w
  | 30, _ => exact idx_30 w
  | q + 31, h => exact absurd h (by omega)
theorem name_same : ∀ k, k < 31 → pName k = dName (ix (pN k)) := by decide +kernel
theorem num_same : ∀ i, i < 31 → ∃ j, j < 31 ∧ pN j = dN i := by decide +kernel
theorem name_not : ∀ i, i < 31 → (dName i).toList.isEmpty = false := by decide +kernel
theorem name_none : dName 31 = ⟨#[]⟩ := by kernel_rfl
theorem ix_of_none (n : Int) (h : ∀ j, j < 31 → pN j ≠ n) : ix n = 31 := by
  have hle := ix_le n
  by_cases hi : ix n < 31
  · obtain ⟨j, hj, e⟩ := num_same (ix n) hi
    rw [ix_dN n hi] at e
    exact absurd e (h j hj)
  · omega
set_option maxRecDepth 100000 in
set_option maxHeartbeats 1000000 in
theorem name_any (n : Int) (w : World) (hR : Regs w) : Calls Tryd.prog 22 #[.int .i64 n] w fun e w' => e = .returned (.string (dName (ix n))) ∧ Below w.heap.size w w' := by
  obtain ⟨t, fr, hR⟩ := hR
  have HR : Hid (w.heap[0]? = some (.cells regC t fr)) := hR
  clear hR
  go_enter Tryd.func22, Tryd.ntmps22
  go_upto_region 1 with fail
  refine wp_region_list ?_
  refine wpList_load_row rfl 68 _ rfl 0 rfl t regC fr _ HR.out Tryd.underlying68 rfl info68 ?_
  generalize hrg : Value.agg regC = rg
  have HRG : Hid (Value.agg regC = rg) := hrg
  clear hrg
  go_wp2_with fail
  go_loopw [4, 6] (fun r i wr => ∃ k : Nat, k ≤ 31 ∧ i = .int .i64 k ∧ Below w.heap.size w wr ∧ Hid (∀ j, j < k → pN j ≠ n)) (fun _ i _ => 31 - (intOf i).toNat)
  case atStart => exact ⟨0, by omega, rfl, Below.refl _ _, fun j hj => absurd hj (Nat.not_lt_zero _)⟩
  case round =>
    obtain ⟨k, hk, rfl, hbw, HN⟩ := hrel
    have HB : Hid (Below w.heap.size w wr) := hbw
    clear hbw
    by_cases hlt : k < 31
    · have hlt1 : (k : Int) < 31 := by omega
      have hidx : ∀ V, (Instr.index 68 rg (.int .i64 (k : Int))).run Tryd.prog V = .ok (.agg #[.int .i64 (pN k), .string (pName k)]) V := fun V => by rw [← HRG.out]; exact idx_at k hlt V
      by_cases he : pN k = n
      · have HE : Hid (pName k = dName (ix n)) := by have h := name_same k hlt; rw [he] at h; exact h
        rw [he] at hidx
        have HS : Hid (pName k = dName (ix n)) := HE
        obtain ⟨s, hs⟩ : ∃ s, pName k = s := ⟨_, rfl⟩
        rw [hs] at hidx
        have HS2 : Hid (pName k = s) := hs
        clear hs he
        go_wp2_with fail
        go_ret
        exact ⟨by rw [← HE.out, HS2.out]; rfl, HB.out.alloc HB.out.size _⟩
      · have HE : Hid (pN k ≠ n) := he
        obtain ⟨d, hd⟩ : ∃ d, pN k = d := ⟨_, rfl⟩
        have he1 : (d == n) = false := by rw [← hd]; simp [he]
        rw [hd] at hidx
        clear hd he
        go_wp2_with fail
        go_roundw
        case rel => exact ⟨k + 1, by omega, by go_num, HB.out.alloc HB.out.size _, fun j hj => by
          by_cases h : j = k
          · subst h; exact HE.out
          · exact HN.out j (by omega)⟩
        case measure => simp [intOf]; omega
    · obtain rfl : k = 31 := by omega
      have HE : Hid (dName (ix n) = ⟨#[]⟩) := by rw [ix_of_none n HN.out]; exact name_none
      go_wp2_with fail
      go_ret
      exact ⟨by rw [HE.out]; rfl, HB.out⟩
theorem known_any (n : Int) (w : World) (hR : Regs w) : Calls Tryd.prog 21 #[.int .i64 n] w fun e w' => e = .returned (.bool (knownB n)) ∧ Below w.heap.size w w' := by
  have h := name_any n w hR
  have hk : Hid ((!(dName (ix n)).toList.isEmpty) = knownB n) := by
    show _ = _
    unfold knownB
    have hle := ix_le n
    by_cases hi : ix n < 31
    · rw [name_not _ hi]; simp [hi]
    · rw [show ix n = 31 from by omega]; decide +kernel
  generalize dName (ix n) = s at *
  go_enter Tryd.func21, Tryd.ntmps21
  go_wp2_with fail
  refine h.mono ?_
  rintro e w1 ⟨rfl, hb1⟩
  go_wp2_with fail
  go_ret
  refine ⟨ret_bool ?_, hb1⟩
  exact hk.out
end Go.Proofs.YtebdlefdkadhnaaDoor
