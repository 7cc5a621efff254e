/- The program's table of names as the statements list it; the tables of the statement on sorts. -/
import Derived.Test.YtooaafbdjnlmfaaGreatDoorQOpen
import Derived.Test.YtooaafbdjnlmfaaGreatDoorQDocRows
namespace Go.Proofs.YtooaafbdjnlmfaaGreatDoor
open Go.ChangeShapes Go.WideShapes Go.ChangeAt Go.RowKit
set_option linter.unusedVariables false
/-- a table of strings as a row lists it -/
def strData {H : Type} (zs : List (List UInt8)) : DataW H := .agg (zs.map fun z => .lit (.string z))
set_option maxRecDepth 100000 in
theorem cells_of_strs {H : Type} {enc : TypeId × Value → H} {P : Program} {w : World} {base : Nat} {sp : Nat → Bool} {held : Bool} {fuel : Nat} {t e : TypeId} {n : Nat} {cs : List Value} {zs : List (List UInt8)} {p : List MemPlace}
    (ht : P.underlying t = some (.array n e)) (he : P.underlying e = some .string) (hce : P.cellsOf e = 1) (hct : P.cellsOf t = n)
    (h : DataW.trod enc P w base sp held fuel t cs = some (strData zs, p)) : cs = zs.map fun z => Value.string ⟨z.toArray⟩ := by
  cases fuel with
  | zero => simp [DataW.trod] at h
  | succ fuel =>
    simp only [DataW.trod, ht, hce, hct, Nat.mul_one] at h
    split at h
    · rename_i hl
      obtain ⟨xs, hm, hx⟩ := Option.map_eq_some_iff.1 h
      have hxs : xs.map (·.1) = zs.map fun z => (DataW.lit (.string z) : DataW H) := by
        have := congrArg Prod.fst hx
        simpa [strData] using this
      have hxl : xs.length = n := by simpa using Lib.mapM_length hm
      have hzl : zs.length = n := by
        have := congrArg List.length hxs
        simp at this
        omega
      apply List.ext_getElem?
      intro i
      by_cases hi : i < n
      · obtain ⟨b, hb, hf⟩ := Lib.mapM_at hm i i (by simp [hi])
        obtain ⟨z, hc, rfl, _⟩ := DataW.trod_string he hf
        have h1 : cs[i]? = some (.string z) := by
          have := congrArg (·[0]?) hc
          simpa [List.getElem?_take, List.getElem?_drop] using this
        have h2 : (xs.map (·.1))[i]? = some (DataW.lit (.string z.data.toList) : DataW H) := by simp [hb]
        rw [hxs] at h2
        simp only [List.getElem?_map, Option.map_eq_some_iff, DataW.lit.injEq, Lit.string.injEq] at h2
        obtain ⟨z', hz', rfl⟩ := h2
        simp [h1, hz']
      · rw [List.getElem?_eq_none (by omega), List.getElem?_eq_none (by simp; omega)]
    · cases h
set_option maxRecDepth 100000 in
theorem strs_of_head {P : Program} {W : World} {name : String} {zs : List (List UInt8)} {rest : List (String × DataW Unit)} {g : Nat} {t e : TypeId} {n : Nat}
    (hg : P.globalNamed name = some g) (hty : (P.globals[g]?).map (·.type) = some t) (ht : P.underlying t = some (.array n e)) (he : P.underlying e = some .string) (hce : P.cellsOf e = 1) (hct : P.cellsOf t = n)
    (h : laidMet P ((name, strData zs) :: rest) W) : W.var? P name = some (zs.map fun z => Value.string ⟨z.toArray⟩).toArray := by
  obtain ⟨ps, ⟨g', t', cs, fuel, p, q, hg', ht', hvar, hd, _, _⟩, _⟩ := h
  obtain rfl := Option.some.inj (hg.symm.trans hg')
  obtain rfl := Option.some.inj (hty.symm.trans ht')
  rw [hvar, ← cells_of_strs ht he hce hct hd]
/-- the names lie where their variable is -/
def NamesAt (w : World) : Prop := ∀ k, 1 ≤ k → k < 99 → w.cell? ⟨3, k, none⟩ = some (.string (dName (k - 1)))
set_option maxRecDepth 100000 in
theorem NamesAt.below {w w' : World} (h : NamesAt w) (hl : 5 ≤ w.heap.size) (hb : Below w.heap.size w w') : NamesAt w' := fun k h1 h2 => by
  rw [hb.cell (p := ⟨3, k, none⟩) (show 3 < w.heap.size by omega)]
  exact h k h1 h2
set_option maxRecDepth 100000 in
theorem gNames : Tryz.prog.globalNamed "vireo/inst.names" = some 3 := by kernel_rfl
set_option maxRecDepth 100000 in
theorem tNames : (Tryz.prog.globals[3]?).map (·.type) = some 95 := by kernel_rfl
set_option maxRecDepth 100000 in
theorem cellsOf9 : Tryz.prog.cellsOf 9 = 1 := by kernel_rfl
set_option maxRecDepth 100000 in
theorem cellsOf95 : Tryz.prog.cellsOf 95 = 99 := by kernel_rfl
set_option maxRecDepth 100000 in
theorem dNames_len : dNames.length = 98 := by kernel_rfl
set_option maxRecDepth 100000 in
theorem names_at {W : World} (h5 : W.var? Tryz.prog "vireo/inst.names" = some ((([] : List UInt8) :: dNames).map fun z => Value.string ⟨z.toArray⟩).toArray) : NamesAt W := fun k q1 q2 => by
  obtain ⟨i, rfl⟩ : ∃ i, k = i + 1 := ⟨k - 1, by omega⟩
  have := World.var?_cell gNames h5 (i + 1)
  rw [this, List.getElem?_toArray, List.map_cons, List.getElem?_cons_succ, List.getElem?_map, Nat.add_sub_cancel]
  have hi : i < dNames.length := by rw [dNames_len]; omega
  unfold dName
  rw [List.getD_eq_getElem?_getD, List.getElem?_eq_getElem hi]
  rfl
end Go.Proofs.YtooaafbdjnlmfaaGreatDoor
