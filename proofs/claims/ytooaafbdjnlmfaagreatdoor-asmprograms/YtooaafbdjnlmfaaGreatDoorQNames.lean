/- The program's table of names as the statements list it; the tables of the statement on sorts. -/
import Derived.Test.YtooaafbdjnlmfaaGreatDoorQOpen
import Derived.Test.YtooaafbdjnlmfaaGreatDoorQDocRows
import Derived.Test.YtooaafbdjnlmfaaGreatDoorQRight
namespace Go.Proofs.YtooaafbdjnlmfaaGreatDoor
open Go.ChangeShapes Go.WideShapes Go.ChangeAt Go.RowKit
set_option linter.unusedVariables false
/-- a table of strings as a row lists it -/
def strData {H : Type} (zs : List (List UInt8)) : DataW H := .agg (zs.map fun z => .lit (.string z))
set_option maxRecDepth 100000 in
theorem cells_of_strs {H : Type} {enc : TypeId × Value → H} {P : Program} {w : World} {base : Nat} {sp : Nat → Bool} {held : Bool} {fuel : Nat} {t e : TypeId} {n : Nat} {cs : List Value} {zs : List (List UInt8)} {p : List MemPlace}
    (ht : P.underlying t = some (.array n e)) (he : P.underlying e = some .string) (hce : P.cellsOf e = 1) (hct : P.cellsOf t = n)
    (h : DataW.trod enc P w base sp held fuel t cs = some (strData zs, p)) : cs = zs.map fun z => Value.string ⟨z.toArray⟩ := by
  cases fuel with
  | zero => simp [DataW.trod] at h
  | succ fuel =>
    simp only [DataW.trod, ht, hce, hct, Nat.mul_one] at h
    split at h
    · rename_i hl
      obtain ⟨xs, hm, hx⟩ := Option.map_eq_some_iff.1 h
      have hxs : xs.map (·.1) = zs.map fun z => (DataW.lit (.string z) : DataW H) := by
        have := congrArg Prod.fst hx
        simpa [strData] using this
      have hxl : xs.length = n := by simpa using Lib.mapM_length hm
      have hzl : zs.length = n := by
        have := congrArg List.length hxs
        simp at this
        omega
      apply List.ext_getElem?
      intro i
      by_cases hi : i < n
      · obtain ⟨b, hb, hf⟩ := Lib.mapM_at hm i i (by simp [hi])
        obtain ⟨z, hc, rfl, _⟩ := DataW.trod_string he hf
        have h1 : cs[i]? = some (.string z) := by
          have := congrArg (·[0]?) hc
          simpa [List.getElem?_take, List.getElem?_drop] using this
        have h2 : (xs.map (·.1))[i]? = some (DataW.lit (.string z.data.toList) : DataW H) := by simp [hb]
        rw [hxs] at h2
        simp only [List.getElem?_map, Option.map_eq_some_iff, DataW.lit.injEq, Lit.string.injEq] at h2
        obtain ⟨z', hz', rfl⟩ := h2
        simp [h1, hz']
      · rw [List.getElem?_eq_none (by omega), List.getElem?_eq_none (by simp; omega)]
    · cases h
set_option maxRecDepth 100000 in
theorem strs_of_head {P : Program} {W : World} {name : String} {zs : List (List UInt8)} {rest : List (String × DataW Unit)} {g : Nat} {t e : TypeId} {n : Nat}
    (hg : P.globalNamed name = some g) (hty : (P.globals[g]?).map (·.type) = some t) (ht : P.underlying t = some (.array n e)) (he : P.underlying e = some .string) (hce : P.cellsOf e = 1) (hct : P.cellsOf t = n)
    (h : laidMet P ((name, strData zs) :: rest) W) : W.var? P name = some (zs.map fun z => Value.string ⟨z.toArray⟩).toArray := by
  obtain ⟨ps, ⟨g', t', cs, fuel, p, q, hg', ht', hvar, hd, _, _⟩, _⟩ := h
  obtain rfl := Option.some.inj (hg.symm.trans hg')
  obtain rfl := Option.some.inj (hty.symm.trans ht')
  rw [hvar, ← cells_of_strs ht he hce hct hd]
/-- the names lie where their variable is -/
def NamesAt (w : World) : Prop := ∀ k, 1 ≤ k → k < 99 → w.cell? ⟨3, k, none⟩ = some (.string (dName (k - 1)))
set_option maxRecDepth 100000 in
theorem NamesAt.below {w w' : World} (h : NamesAt w) (hl : 5 ≤ w.heap.size) (hb : Below w.heap.size w w') : NamesAt w' := fun k h1 h2 => by
  rw [hb.cell (p := ⟨3, k, none⟩) (show 3 < w.heap.size by omega)]
  exact h k h1 h2
set_option maxRecDepth 100000 in
theorem gNames : Tryz.prog.globalNamed "vireo/inst.names" = some 3 := by kernel_rfl
set_option maxRecDepth 100000 in
theorem tNames : (Tryz.prog.globals[3]?).map (·.type) = some 95 := by kernel_rfl
set_option maxRecDepth 100000 in
theorem cellsOf9 : Tryz.prog.cellsOf 9 = 1 := by kernel_rfl
set_option maxRecDepth 100000 in
theorem cellsOf95 : Tryz.prog.cellsOf 95 = 99 := by kernel_rfl
set_option maxRecDepth 100000 in
theorem dNames_len : dNames.length = 98 := by kernel_rfl
set_option maxRecDepth 100000 in
theorem names_at {W : World} (h5 : W.var? Tryz.prog "vireo/inst.names" = some ((([] : List UInt8) :: dNames).map fun z => Value.string ⟨z.toArray⟩).toArray) : NamesAt W := fun k q1 q2 => by
  obtain ⟨i, rfl⟩ : ∃ i, k = i + 1 := ⟨k - 1, by omega⟩
  have := World.var?_cell gNames h5 (i + 1)
  rw [this, List.getElem?_toArray, List.map_cons, List.getElem?_cons_succ, List.getElem?_map, Nat.add_sub_cancel]
  have hi : i < dNames.length := by rw [dNames_len]; omega
  unfold dName
  rw [List.getD_eq_getElem?_getD, List.getElem?_eq_getElem hi]
  rfl
end Go.Proofs.YtooaafbdjnlmfaaGreatDoor

namespace Go.Proofs.YtooaafbdjnlmfaaGreatDoor
open Go.RowKit
set_option linter.unusedVariables false
set_option linter.unusedSimpArgs false
theorem str_ne {a b : ByteArray} (h : a ≠ b) : (a.toList == b.toList) = false := by
  rw [beq_eq_false_iff_ne]
  intro e
  apply h
  rw [ByteArray.toList_eq, ByteArray.toList_eq] at e
  cases a
  cases b
  simp at e
  rw [e]
theorem str_eq {a b : ByteArray} (h : a = b) : (a.toList == b.toList) = true := by rw [h]; simp
/-- an operation's name -/
def nameI (op : Int) : ByteArray := if 1 ≤ op ∧ op ≤ 98 then dName (op.toNat - 1) else ⟨#[]⟩
theorem formI_yes (k : Nat) (h1 : 1 ≤ k) (h2 : k < 99) : formI (k : Nat) = formsT.getD k 0 := by unfold formI; rw [if_pos ⟨by omega, by omega⟩, Int.toNat_natCast]
theorem formI_no (op : Int) (h : ¬ (1 ≤ op ∧ op ≤ 98)) : formI op = 0 := by unfold formI; rw [if_neg h]
theorem formsP : ∀ i, i < 99 → 1 ≤ i → formsT.getD i 0 ≠ 0 := by decide +kernel
set_option maxRecDepth 100000 in
theorem name_any (op : Int) (w : World) (t : Tabs w) (nm : NamesAt w) : Calls Tryz.prog 26 #[.int .i64 op] w fun e w' => e = .returned (.string (nameI op)) ∧ w' = w := by
  have hf := form_any op w t
  by_cases h : 1 ≤ op ∧ op ≤ 98
  · obtain ⟨k, rfl⟩ : ∃ k : Nat, op = k := ⟨op.toNat, by omega⟩
    rw [show nameI (k : Nat) = dName (k - 1) from by unfold nameI; rw [if_pos h, Int.toNat_natCast]]
    have hc := nm k (by omega) (by omega)
    have hz : (((formI (k : Nat) : Nat) : Int) == 0) = false := by
      rw [formI_yes k (by omega) (by omega)]
      have := formsP k (by omega) (by omega)
      simpa using this
    have HF : Hid _ := hf
    generalize ((formI (k : Nat) : Nat) : Int) = f at *
    generalize dName (k - 1) = s at *
    clear hf t nm
    have hk : (k : Int) < 99 := by omega
    go_enter Tryz.func26, Tryz.ntmps26
    go_wp2_with fail
    refine Calls.mono (by exact HF.out) ?_
    rintro e w' ⟨rfl, hw⟩
    rw [hw]
    clear hw
    go_wp2
    go_ret
    exact ⟨rfl, rfl⟩
  · rw [show nameI op = ⟨#[]⟩ from by unfold nameI; rw [if_neg h]]
    rw [formI_no op h] at hf
    have HF : Hid _ := hf
    clear hf t nm h
    go_enter Tryz.func26, Tryz.ntmps26
    go_wp2_with fail
    refine Calls.mono (by exact HF.out) ?_
    rintro e w' ⟨rfl, hw⟩
    rw [hw]
    clear hw
    go_wp2
    go_ret
    exact ⟨rfl, rfl⟩
set_option maxRecDepth 100000 in
set_option maxHeartbeats 400000 in
theorem find_yes (s : ByteArray) (m : Nat) (hm : m < 98) (hs : dName m = s) (hno : ∀ j, j < m → dName j ≠ s) (w : World) (nm : NamesAt w) : Calls Tryz.prog 82 #[.string s] w fun e w' => e = .returned (.int .i64 ((m : Int) + 1)) ∧ w' = w := by
  have HN : Hid _ := nm
  have HO : Hid _ := hno
  have HS : Hid _ := hs
  clear nm hno hs
  go_enter Tryz.func82, Tryz.ntmps82
  go_wp2
  go_loop [3] (fun v => ∃ k : Nat, 1 ≤ k ∧ k ≤ m + 1 ∧ v = .int .i64 k) (fun v => 100 - (intOf v).toNat)
  case atStart => exact ⟨1, by omega, by omega, rfl⟩
  case round =>
    obtain ⟨k, hk1, hk2, rfl⟩ := hrel
    have hk3 : (k : Int) ≤ 98 := by omega
    have hk4 : (k : Int) < 99 := by omega
    have hc := HN.out k hk1 (by omega)
    by_cases hkm : k < m + 1
    · have hb := str_ne (HO.out (k - 1) (by omega))
      generalize dName (k - 1) = z at *
      go_wp2
      go_round
      case rel => exact ⟨k + 1, by omega, by omega, by go_num⟩
      case measure => simp [intOf]; omega
    · obtain rfl : k = m + 1 := by omega
      rw [Nat.add_sub_cancel] at hc
      have hb := str_eq HS.out
      generalize dName m = z at *
      go_wp2
      go_ret
      exact ⟨by simp, rfl⟩
set_option maxRecDepth 100000 in
set_option maxHeartbeats 400000 in
theorem find_no (s : ByteArray) (hno : ∀ j, j < 98 → dName j ≠ s) (w : World) (nm : NamesAt w) : Calls Tryz.prog 82 #[.string s] w fun e w' => e = .returned (.int .i64 0) ∧ w' = w := by
  have HN : Hid _ := nm
  have HO : Hid _ := hno
  clear nm hno
  go_enter Tryz.func82, Tryz.ntmps82
  go_wp2
  go_loop [3] (fun v => ∃ k : Nat, 1 ≤ k ∧ k ≤ 99 ∧ v = .int .i64 k) (fun v => 100 - (intOf v).toNat)
  case atStart => exact ⟨1, by omega, by omega, rfl⟩
  case round =>
    obtain ⟨k, hk1, hk2, rfl⟩ := hrel
    by_cases hkm : k < 99
    · have hk3 : (k : Int) ≤ 98 := by omega
      have hk4 : (k : Int) < 99 := by omega
      have hc := HN.out k hk1 (by omega)
      have hb := str_ne (HO.out (k - 1) (by omega))
      generalize dName (k - 1) = z at *
      go_wp2
      go_round
      case rel => exact ⟨k + 1, by omega, by omega, by go_num⟩
      case measure => simp [intOf]; omega
    · have hk3 : ¬ ((k : Int) ≤ 98) := by omega
      go_wp2
      go_ret
      exact ⟨rfl, rfl⟩
set_option maxRecDepth 100000 in
/-- is it one of a form? -/
theorem loads_any (op : Int) (w : World) (t : Tabs w) : Calls Tryz.prog 60 #[.int .i64 op] w fun e w' => e = .returned (.bool (((formI op : Nat) : Int) == 4)) ∧ w' = w := by
  have HF : Hid _ := form_any op w t
  clear t
  generalize ((formI op : Nat) : Int) = f at *
  go_enter Tryz.func60, Tryz.ntmps60
  go_wp2_with fail
  refine Calls.mono (by exact HF.out) ?_
  rintro e w' ⟨rfl, hw⟩
  rw [hw]
  clear hw
  go_wp2
  go_ret
  exact ⟨rfl, rfl⟩
set_option maxRecDepth 100000 in
theorem stores_any (op : Int) (w : World) (t : Tabs w) : Calls Tryz.prog 61 #[.int .i64 op] w fun e w' => e = .returned (.bool (((formI op : Nat) : Int) == 6)) ∧ w' = w := by
  have HF : Hid _ := form_any op w t
  clear t
  generalize ((formI op : Nat) : Int) = f at *
  go_enter Tryz.func61, Tryz.ntmps61
  go_wp2_with fail
  refine Calls.mono (by exact HF.out) ?_
  rintro e w' ⟨rfl, hw⟩
  rw [hw]
  clear hw
  go_wp2
  go_ret
  exact ⟨rfl, rfl⟩
set_option maxRecDepth 100000 in
theorem branches_any (op : Int) (w : World) (t : Tabs w) : Calls Tryz.prog 62 #[.int .i64 op] w fun e w' => e = .returned (.bool (((formI op : Nat) : Int) == 5)) ∧ w' = w := by
  have HF : Hid _ := form_any op w t
  clear t
  generalize ((formI op : Nat) : Int) = f at *
  go_enter Tryz.func62, Tryz.ntmps62
  go_wp2_with fail
  refine Calls.mono (by exact HF.out) ?_
  rintro e w' ⟨rfl, hw⟩
  rw [hw]
  clear hw
  go_wp2
  go_ret
  exact ⟨rfl, rfl⟩
set_option maxRecDepth 100000 in
theorem atomics_any (op : Int) (w : World) (t : Tabs w) : Calls Tryz.prog 63 #[.int .i64 op] w fun e w' => e = .returned (.bool (((formI op : Nat) : Int) == 14 || ((formI op : Nat) : Int) == 15)) ∧ w' = w := by
  have HF : Hid _ := form_any op w t
  clear t
  generalize ((formI op : Nat) : Int) = f at *
  cases h : (f == 14)
  · go_enter Tryz.func63, Tryz.ntmps63
    go_wp2_with fail
    refine Calls.mono (by exact HF.out) ?_
    rintro e w' ⟨rfl, hw⟩
    rw [hw]
    clear hw
    go_wp2
    go_ret
    exact ⟨by simp, rfl⟩
  · go_enter Tryz.func63, Tryz.ntmps63
    go_wp2_with fail
    refine Calls.mono (by exact HF.out) ?_
    rintro e w' ⟨rfl, hw⟩
    rw [hw]
    clear hw
    go_wp2
    go_ret
    exact ⟨by simp, rfl⟩
end Go.Proofs.YtooaafbdjnlmfaaGreatDoor
