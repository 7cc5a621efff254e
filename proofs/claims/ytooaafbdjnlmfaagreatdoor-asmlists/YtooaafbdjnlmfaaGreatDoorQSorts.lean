/- The program's calls Name, Find, Loads, Stores, Branches, Atomics, Systems and Width of layer 3. -/
import Derived.Test.YtooaafbdjnlmfaaGreatDoorQNames
import Derived.Test.YtooaafbdjnlmfaaGreatDoorQRight
namespace Go.Proofs.YtooaafbdjnlmfaaGreatDoor
open Go.RowKit
set_option linter.unusedVariables false
set_option linter.unusedSimpArgs false
theorem str_ne {a b : ByteArray} (h : a ≠ b) : (a.toList == b.toList) = false := by
  rw [beq_eq_false_iff_ne]
  intro e
  apply h
  rw [ByteArray.toList_eq, ByteArray.toList_eq] at e
  cases a
  cases b
  simp at e
  rw [e]
theorem str_eq {a b : ByteArray} (h : a = b) : (a.toList == b.toList) = true := by rw [h]; simp
/-- an operation's name -/
def nameI (op : Int) : ByteArray := if 1 ≤ op ∧ op ≤ 98 then dName (op.toNat - 1) else ⟨#[]⟩
theorem formI_yes (k : Nat) (h1 : 1 ≤ k) (h2 : k < 99) : formI (k : Nat) = formsT.getD k 0 := by unfold formI; rw [if_pos ⟨by omega, by omega⟩, Int.toNat_natCast]
theorem formI_no (op : Int) (h : ¬ (1 ≤ op ∧ op ≤ 98)) : formI op = 0 := by unfold formI; rw [if_neg h]
theorem formsP : ∀ i, i < 99 → 1 ≤ i → formsT.getD i 0 ≠ 0 := by decide +kernel
set_option maxRecDepth 100000 in
theorem name_any (op : Int) (w : World) (t : Tabs w) (nm : NamesAt w) : Calls Tryz.prog 26 #[.int .i64 op] w fun e w' => e = .returned (.string (nameI op)) ∧ w' = w := by
  have hf := form_any op w t
  by_cases h : 1 ≤ op ∧ op ≤ 98
  · obtain ⟨k, rfl⟩ : ∃ k : Nat, op = k := ⟨op.toNat, by omega⟩
    rw [show nameI (k : Nat) = dName (k - 1) from by unfold nameI; rw [if_pos h, Int.toNat_natCast]]
    have hc := nm k (by omega) (by omega)
    have hz : (((formI (k : Nat) : Nat) : Int) == 0) = false := by
      rw [formI_yes k (by omega) (by omega)]
      have := formsP k (by omega) (by omega)
      simpa using this
    have HF : Hid _ := hf
    generalize ((formI (k : Nat) : Nat) : Int) = f at *
    generalize dName (k - 1) = s at *
    clear hf t nm
    have hk : (k : Int) < 99 := by omega
    go_enter Tryz.func26, Tryz.ntmps26
    go_wp2_with fail
    refine Calls.mono (by exact HF.out) ?_
    rintro e w' ⟨rfl, hw⟩
    rw [hw]
    clear hw
    go_wp2
    go_ret
    exact ⟨rfl, rfl⟩
  · rw [show nameI op = ⟨#[]⟩ from by unfold nameI; rw [if_neg h]]
    rw [formI_no op h] at hf
    have HF : Hid _ := hf
    clear hf t nm h
    go_enter Tryz.func26, Tryz.ntmps26
    go_wp2_with fail
    refine Calls.mono (by exact HF.out) ?_
    rintro e w' ⟨rfl, hw⟩
    rw [hw]
    clear hw
    go_wp2
    go_ret
    exact ⟨rfl, rfl⟩
set_option maxRecDepth 100000 in
set_option maxHeartbeats 400000 in
theorem find_yes (s : ByteArray) (m : Nat) (hm : m < 98) (hs : dName m = s) (hno : ∀ j, j < m → dName j ≠ s) (w : World) (nm : NamesAt w) : Calls Tryz.prog 82 #[.string s] w fun e w' => e = .returned (.int .i64 ((m : Int) + 1)) ∧ w' = w := by
  have HN : Hid _ := nm
  have HO : Hid _ := hno
  have HS : Hid _ := hs
  clear nm hno hs
  go_enter Tryz.func82, Tryz.ntmps82
  go_wp2
  go_loop [3] (fun v => ∃ k : Nat, 1 ≤ k ∧ k ≤ m + 1 ∧ v = .int .i64 k) (fun v => 100 - (intOf v).toNat)
  case atStart => exact ⟨1, by omega, by omega, rfl⟩
  case round =>
    obtain ⟨k, hk1, hk2, rfl⟩ := hrel
    have hk3 : (k : Int) ≤ 98 := by omega
    have hk4 : (k : Int) < 99 := by omega
    have hc := HN.out k hk1 (by omega)
    by_cases hkm : k < m + 1
    · have hb := str_ne (HO.out (k - 1) (by omega))
      generalize dName (k - 1) = z at *
      go_wp2
      go_round
      case rel => exact ⟨k + 1, by omega, by omega, by go_num⟩
      case measure => simp [intOf]; omega
    · obtain rfl : k = m + 1 := by omega
      rw [Nat.add_sub_cancel] at hc
      have hb := str_eq HS.out
      generalize dName m = z at *
      go_wp2
      go_ret
      exact ⟨by simp, rfl⟩
set_option maxRecDepth 100000 in
set_option maxHeartbeats 400000 in
theorem find_no (s : ByteArray) (hno : ∀ j, j < 98 → dName j ≠ s) (w : World) (nm : NamesAt w) : Calls Tryz.prog 82 #[.string s] w fun e w' => e = .returned (.int .i64 0) ∧ w' = w := by
  have HN : Hid _ := nm
  have HO : Hid _ := hno
  clear nm hno
  go_enter Tryz.func82, Tryz.ntmps82
  go_wp2
  go_loop [3] (fun v => ∃ k : Nat, 1 ≤ k ∧ k ≤ 99 ∧ v = .int .i64 k) (fun v => 100 - (intOf v).toNat)
  case atStart => exact ⟨1, by omega, by omega, rfl⟩
  case round =>
    obtain ⟨k, hk1, hk2, rfl⟩ := hrel
    by_cases hkm : k < 99
    · have hk3 : (k : Int) ≤ 98 := by omega
      have hk4 : (k : Int) < 99 := by omega
      have hc := HN.out k hk1 (by omega)
      have hb := str_ne (HO.out (k - 1) (by omega))
      generalize dName (k - 1) = z at *
      go_wp2
      go_round
      case rel => exact ⟨k + 1, by omega, by omega, by go_num⟩
      case measure => simp [intOf]; omega
    · have hk3 : ¬ ((k : Int) ≤ 98) := by omega
      go_wp2
      go_ret
      exact ⟨rfl, rfl⟩
set_option maxRecDepth 100000 in
/-- is it one of a form? -/
theorem loads_any (op : Int) (w : World) (t : Tabs w) : Calls Tryz.prog 60 #[.int .i64 op] w fun e w' => e = .returned (.bool (((formI op : Nat) : Int) == 4)) ∧ w' = w := by
  have HF : Hid _ := form_any op w t
  clear t
  generalize ((formI op : Nat) : Int) = f at *
  go_enter Tryz.func60, Tryz.ntmps60
  go_wp2_with fail
  refine Calls.mono (by exact HF.out) ?_
  rintro e w' ⟨rfl, hw⟩
  rw [hw]
  clear hw
  go_wp2
  go_ret
  exact ⟨rfl, rfl⟩
set_option maxRecDepth 100000 in
theorem stores_any (op : Int) (w : World) (t : Tabs w) : Calls Tryz.prog 61 #[.int .i64 op] w fun e w' => e = .returned (.bool (((formI op : Nat) : Int) == 6)) ∧ w' = w := by
  have HF : Hid _ := form_any op w t
  clear t
  generalize ((formI op : Nat) : Int) = f at *
  go_enter Tryz.func61, Tryz.ntmps61
  go_wp2_with fail
  refine Calls.mono (by exact HF.out) ?_
  rintro e w' ⟨rfl, hw⟩
  rw [hw]
  clear hw
  go_wp2
  go_ret
  exact ⟨rfl, rfl⟩
set_option maxRecDepth 100000 in
theorem branches_any (op : Int) (w : World) (t : Tabs w) : Calls Tryz.prog 62 #[.int .i64 op] w fun e w' => e = .returned (.bool (((formI op : Nat) : Int) == 5)) ∧ w' = w := by
  have HF : Hid _ := form_any op w t
  clear t
  generalize ((formI op : Nat) : Int) = f at *
  go_enter Tryz.func62, Tryz.ntmps62
  go_wp2_with fail
  refine Calls.mono (by exact HF.out) ?_
  rintro e w' ⟨rfl, hw⟩
  rw [hw]
  clear hw
  go_wp2
  go_ret
  exact ⟨rfl, rfl⟩
set_option maxRecDepth 100000 in
theorem atomics_any (op : Int) (w : World) (t : Tabs w) : Calls Tryz.prog 63 #[.int .i64 op] w fun e w' => e = .returned (.bool (((formI op : Nat) : Int) == 14 || ((formI op : Nat) : Int) == 15)) ∧ w' = w := by
  have HF : Hid _ := form_any op w t
  clear t
  generalize ((formI op : Nat) : Int) = f at *
  cases h : (f == 14)
  · go_enter Tryz.func63, Tryz.ntmps63
    go_wp2_with fail
    refine Calls.mono (by exact HF.out) ?_
    rintro e w' ⟨rfl, hw⟩
    rw [hw]
    clear hw
    go_wp2
    go_ret
    exact ⟨by simp, rfl⟩
  · go_enter Tryz.func63, Tryz.ntmps63
    go_wp2_with fail
    refine Calls.mono (by exact HF.out) ?_
    rintro e w' ⟨rfl, hw⟩
    rw [hw]
    clear hw
    go_wp2
    go_ret
    exact ⟨by simp, rfl⟩
end Go.Proofs.YtooaafbdjnlmfaaGreatDoor
