/- The calls Reg, orderMark, shapeOf and partText of layer 4. -/
import Derived.Test.YtooaafbdjnlmfaaGreatDoorQDigits
import Derived.Test.YtooaafbdjnlmfaaGreatDoorQNames
import Derived.Laws.IdiomStrings
namespace Go.Proofs.YtooaafbdjnlmfaaGreatDoor
open Go.RowKit
set_option linter.unusedVariables false
set_option linter.unusedSimpArgs false
/-- bytes as a string -/
def mk (l : List UInt8) : ByteArray := ⟨l.toArray⟩
theorem mk_app (a b : List UInt8) : mk a ++ mk b = mk (a ++ b) := by
  unfold mk
  apply ByteArray.ext
  simp
theorem mk_size (l : List UInt8) : (mk l).size = l.length := size_mk l
theorem decS_mk (n : Int) : decS n = mk (Lib.itoa n) := rfl
def hexL (x : Nat) : List UInt8 := 48 :: 120 :: dtext 16 16 x
theorem hexS_mk (x : Nat) : hexS x = mk (hexL x) := hexS_eq x
def regL (n : Int) : List UInt8 := 120 :: Lib.itoa n
theorem regL_mk (n : Int) : (⟨#[120]⟩ : ByteArray) ++ decS n = mk (regL n) := by rw [decS_mk]; exact mk_app [120] _
theorem decS_small (n : Int) (h0 : -9223372036854775808 ≤ n) (h1 : n ≤ 9223372036854775807) : (decS n).size ≤ 30 := by
  have := Lib.itoa_length_le n h0 h1
  unfold decS
  rw [size_mk]
  omega
theorem reg_any (n : Int) (h0 : -9223372036854775808 ≤ n) (h1 : n ≤ 9223372036854775807) (w : World) (ht : TabsLie w) :
    Calls Tryz.prog 11 #[.int .i64 n] w fun e w' => e = .returned (.string (mk (regL n))) ∧ Below w.heap.size w w' := by
  have hd : Calls Tryz.prog 33 #[.int .i64 n] w fun e w' => e = .returned (.string (decS n)) ∧ Below w.heap.size w w' := dec_any n h0 h1 w ht.pow
  have hs : (decS n).size ≤ 30 := decS_small n h0 h1
  have HM : Hid _ := regL_mk n
  generalize decS n = s at *
  go_enter Tryz.func11, Tryz.ntmps11
  go_wp2_with (go_at_call 33; refine hd.mono ?_; rintro e w' ⟨rfl, hb⟩)
  go_ret
  refine ⟨?_, hb⟩
  rw [← HM.out]
  rfl
def markL (aq rl : Bool) : List UInt8 := if aq then (if rl then [46, 97, 113, 114, 108] else [46, 97, 113]) else (if rl then [46, 114, 108] else [])
theorem mark_any (op rd rs1 rs2 imm csr : Int) (aq rl : Bool) (w : World) : Calls Tryz.prog 27 #[.agg (instrC op rd rs1 rs2 imm csr aq rl)] w fun e w' => e = .returned (.string (mk (markL aq rl))) ∧ Below w.heap.size w w' := by
  have hb : Below w.heap.size w (w.alloc (.cells (instrC op rd rs1 rs2 imm csr aq rl) 23)) := (Below.refl _ _).alloc (Nat.le_refl _) _
  cases aq <;> cases rl <;>
  (go_enter Tryz.func27, Tryz.ntmps27
   go_wp2
   go_ret
   exact ⟨rfl, hb⟩)
theorem shape_1 (w : World) : Calls Tryz.prog 28 #[.int .i64 1] w fun e w' => e = .returned (.string (mk [100, 44, 117])) ∧ w' = w := by
  go_enter Tryz.func28, Tryz.ntmps28
  go_wp2
  go_ret
  exact ⟨rfl, rfl⟩
theorem shape_2 (w : World) : Calls Tryz.prog 28 #[.int .i64 2] w fun e w' => e = .returned (.string (mk [100, 44, 117])) ∧ w' = w := by
  go_enter Tryz.func28, Tryz.ntmps28
  go_wp2
  go_ret
  exact ⟨rfl, rfl⟩
theorem shape_3 (w : World) : Calls Tryz.prog 28 #[.int .i64 3] w fun e w' => e = .returned (.string (mk [100, 44, 110])) ∧ w' = w := by
  go_enter Tryz.func28, Tryz.ntmps28
  go_wp2
  go_ret
  exact ⟨rfl, rfl⟩
theorem shape_54 (w : World) : Calls Tryz.prog 28 #[.int .i64 54] w fun e w' => e = .returned (.string (mk [100, 44, 99, 44, 97])) ∧ w' = w := by
  go_enter Tryz.func28, Tryz.ntmps28
  go_wp2
  go_ret
  exact ⟨rfl, rfl⟩
theorem shape_55 (w : World) : Calls Tryz.prog 28 #[.int .i64 55] w fun e w' => e = .returned (.string (mk [100, 44, 99, 44, 97])) ∧ w' = w := by
  go_enter Tryz.func28, Tryz.ntmps28
  go_wp2
  go_ret
  exact ⟨rfl, rfl⟩
theorem shape_56 (w : World) : Calls Tryz.prog 28 #[.int .i64 56] w fun e w' => e = .returned (.string (mk [100, 44, 99, 44, 97])) ∧ w' = w := by
  go_enter Tryz.func28, Tryz.ntmps28
  go_wp2
  go_ret
  exact ⟨rfl, rfl⟩
theorem shape_57 (w : World) : Calls Tryz.prog 28 #[.int .i64 57] w fun e w' => e = .returned (.string (mk [100, 44, 99, 44, 110])) ∧ w' = w := by
  go_enter Tryz.func28, Tryz.ntmps28
  go_wp2
  go_ret
  exact ⟨rfl, rfl⟩
theorem shape_58 (w : World) : Calls Tryz.prog 28 #[.int .i64 58] w fun e w' => e = .returned (.string (mk [100, 44, 99, 44, 110])) ∧ w' = w := by
  go_enter Tryz.func28, Tryz.ntmps28
  go_wp2
  go_ret
  exact ⟨rfl, rfl⟩
theorem shape_59 (w : World) : Calls Tryz.prog 28 #[.int .i64 59] w fun e w' => e = .returned (.string (mk [100, 44, 99, 44, 110])) ∧ w' = w := by
  go_enter Tryz.func28, Tryz.ntmps28
  go_wp2
  go_ret
  exact ⟨rfl, rfl⟩
theorem shape_73 (w : World) : Calls Tryz.prog 28 #[.int .i64 73] w fun e w' => e = .returned (.string (mk [100, 44, 40, 97, 41])) ∧ w' = w := by
  go_enter Tryz.func28, Tryz.ntmps28
  go_wp2
  go_ret
  exact ⟨rfl, rfl⟩
theorem shape_84 (w : World) : Calls Tryz.prog 28 #[.int .i64 84] w fun e w' => e = .returned (.string (mk [100, 44, 40, 97, 41])) ∧ w' = w := by
  go_enter Tryz.func28, Tryz.ntmps28
  go_wp2
  go_ret
  exact ⟨rfl, rfl⟩
theorem shape_98 (w : World) : Calls Tryz.prog 28 #[.int .i64 98] w fun e w' => e = .returned (.string (mk [97, 44, 98])) ∧ w' = w := by
  go_enter Tryz.func28, Tryz.ntmps28
  go_wp2
  go_ret
  exact ⟨rfl, rfl⟩
theorem shape_4 (w : World) : Calls Tryz.prog 28 #[.int .i64 4] w fun e w' => e = .returned (.string (mk [100, 44, 97, 44, 110])) ∧ w' = w := by
  go_enter Tryz.func28, Tryz.ntmps28
  go_wp2
  go_ret
  exact ⟨rfl, rfl⟩
theorem shape_22 (w : World) : Calls Tryz.prog 28 #[.int .i64 22] w fun e w' => e = .returned (.string (mk [100, 44, 97, 44, 110])) ∧ w' = w := by
  go_enter Tryz.func28, Tryz.ntmps28
  go_wp2
  go_ret
  exact ⟨rfl, rfl⟩
theorem shape_23 (w : World) : Calls Tryz.prog 28 #[.int .i64 23] w fun e w' => e = .returned (.string (mk [100, 44, 97, 44, 110])) ∧ w' = w := by
  go_enter Tryz.func28, Tryz.ntmps28
  go_wp2
  go_ret
  exact ⟨rfl, rfl⟩
theorem shape_24 (w : World) : Calls Tryz.prog 28 #[.int .i64 24] w fun e w' => e = .returned (.string (mk [100, 44, 97, 44, 110])) ∧ w' = w := by
  go_enter Tryz.func28, Tryz.ntmps28
  go_wp2
  go_ret
  exact ⟨rfl, rfl⟩
theorem shape_25 (w : World) : Calls Tryz.prog 28 #[.int .i64 25] w fun e w' => e = .returned (.string (mk [100, 44, 97, 44, 110])) ∧ w' = w := by
  go_enter Tryz.func28, Tryz.ntmps28
  go_wp2
  go_ret
  exact ⟨rfl, rfl⟩
theorem shape_26 (w : World) : Calls Tryz.prog 28 #[.int .i64 26] w fun e w' => e = .returned (.string (mk [100, 44, 97, 44, 110])) ∧ w' = w := by
  go_enter Tryz.func28, Tryz.ntmps28
  go_wp2
  go_ret
  exact ⟨rfl, rfl⟩
theorem shape_27 (w : World) : Calls Tryz.prog 28 #[.int .i64 27] w fun e w' => e = .returned (.string (mk [100, 44, 97, 44, 110])) ∧ w' = w := by
  go_enter Tryz.func28, Tryz.ntmps28
  go_wp2
  go_ret
  exact ⟨rfl, rfl⟩
theorem shape_28 (w : World) : Calls Tryz.prog 28 #[.int .i64 28] w fun e w' => e = .returned (.string (mk [100, 44, 97, 44, 110])) ∧ w' = w := by
  go_enter Tryz.func28, Tryz.ntmps28
  go_wp2
  go_ret
  exact ⟨rfl, rfl⟩
theorem shape_29 (w : World) : Calls Tryz.prog 28 #[.int .i64 29] w fun e w' => e = .returned (.string (mk [100, 44, 97, 44, 110])) ∧ w' = w := by
  go_enter Tryz.func28, Tryz.ntmps28
  go_wp2
  go_ret
  exact ⟨rfl, rfl⟩
theorem shape_30 (w : World) : Calls Tryz.prog 28 #[.int .i64 30] w fun e w' => e = .returned (.string (mk [100, 44, 97, 44, 110])) ∧ w' = w := by
  go_enter Tryz.func28, Tryz.ntmps28
  go_wp2
  go_ret
  exact ⟨rfl, rfl⟩
theorem shape_41 (w : World) : Calls Tryz.prog 28 #[.int .i64 41] w fun e w' => e = .returned (.string (mk [100, 44, 97, 44, 110])) ∧ w' = w := by
  go_enter Tryz.func28, Tryz.ntmps28
  go_wp2
  go_ret
  exact ⟨rfl, rfl⟩
theorem shape_42 (w : World) : Calls Tryz.prog 28 #[.int .i64 42] w fun e w' => e = .returned (.string (mk [100, 44, 97, 44, 110])) ∧ w' = w := by
  go_enter Tryz.func28, Tryz.ntmps28
  go_wp2
  go_ret
  exact ⟨rfl, rfl⟩
theorem shape_43 (w : World) : Calls Tryz.prog 28 #[.int .i64 43] w fun e w' => e = .returned (.string (mk [100, 44, 97, 44, 110])) ∧ w' = w := by
  go_enter Tryz.func28, Tryz.ntmps28
  go_wp2
  go_ret
  exact ⟨rfl, rfl⟩
theorem shape_44 (w : World) : Calls Tryz.prog 28 #[.int .i64 44] w fun e w' => e = .returned (.string (mk [100, 44, 97, 44, 110])) ∧ w' = w := by
  go_enter Tryz.func28, Tryz.ntmps28
  go_wp2
  go_ret
  exact ⟨rfl, rfl⟩
theorem shape_50 (w : World) : Calls Tryz.prog 28 #[.int .i64 50] w fun e w' => e = .returned (.string (mk [100, 44, 97, 44, 110])) ∧ w' = w := by
  go_enter Tryz.func28, Tryz.ntmps28
  go_wp2
  go_ret
  exact ⟨rfl, rfl⟩
theorem shape_51 (w : World) : Calls Tryz.prog 28 #[.int .i64 51] w fun e w' => e = .returned (.string (mk [100, 44, 97, 44, 110])) ∧ w' = w := by
  go_enter Tryz.func28, Tryz.ntmps28
  go_wp2
  go_ret
  exact ⟨rfl, rfl⟩
theorem shape_52 (w : World) : Calls Tryz.prog 28 #[.int .i64 52] w fun e w' => e = .returned (.string (mk [])) ∧ w' = w := by
  go_enter Tryz.func28, Tryz.ntmps28
  go_wp2
  go_ret
  exact ⟨rfl, rfl⟩
theorem shape_53 (w : World) : Calls Tryz.prog 28 #[.int .i64 53] w fun e w' => e = .returned (.string (mk [])) ∧ w' = w := by
  go_enter Tryz.func28, Tryz.ntmps28
  go_wp2
  go_ret
  exact ⟨rfl, rfl⟩
theorem shape_95 (w : World) : Calls Tryz.prog 28 #[.int .i64 95] w fun e w' => e = .returned (.string (mk [])) ∧ w' = w := by
  go_enter Tryz.func28, Tryz.ntmps28
  go_wp2
  go_ret
  exact ⟨rfl, rfl⟩
theorem shape_96 (w : World) : Calls Tryz.prog 28 #[.int .i64 96] w fun e w' => e = .returned (.string (mk [])) ∧ w' = w := by
  go_enter Tryz.func28, Tryz.ntmps28
  go_wp2
  go_ret
  exact ⟨rfl, rfl⟩
theorem shape_97 (w : World) : Calls Tryz.prog 28 #[.int .i64 97] w fun e w' => e = .returned (.string (mk [])) ∧ w' = w := by
  go_enter Tryz.func28, Tryz.ntmps28
  go_wp2
  go_ret
  exact ⟨rfl, rfl⟩
theorem shape_f4 (op : Int) (h1 : ¬ op = 1) (h2 : ¬ op = 2) (h3 : ¬ op = 3) (h54 : ¬ op = 54) (h55 : ¬ op = 55) (h56 : ¬ op = 56) (h57 : ¬ op = 57) (h58 : ¬ op = 58) (h59 : ¬ op = 59) (h73 : ¬ op = 73) (h84 : ¬ op = 84) (h98 : ¬ op = 98) (h4 : ¬ op = 4) (h22 : ¬ op = 22) (h23 : ¬ op = 23) (h24 : ¬ op = 24) (h25 : ¬ op = 25) (h26 : ¬ op = 26) (h27 : ¬ op = 27) (h28 : ¬ op = 28) (h29 : ¬ op = 29) (h30 : ¬ op = 30) (h41 : ¬ op = 41) (h42 : ¬ op = 42) (h43 : ¬ op = 43) (h44 : ¬ op = 44) (h50 : ¬ op = 50) (h51 : ¬ op = 51) (h52 : ¬ op = 52) (h53 : ¬ op = 53) (h95 : ¬ op = 95) (h96 : ¬ op = 96) (h97 : ¬ op = 97) (hf : formI op = 4) (w : World) (t : Tabs w) : Calls Tryz.prog 28 #[.int .i64 op] w fun e w' => e = .returned (.string (mk [100, 44, 110, 40, 97, 41])) ∧ w' = w := by
  have HL : Hid (Calls Tryz.prog 60 #[.int .i64 op] w fun e w' => e = .returned (.bool (((formI op : Nat) : Int) == 4)) ∧ w' = w) := loads_any op w t
  have HS : Hid (Calls Tryz.prog 61 #[.int .i64 op] w fun e w' => e = .returned (.bool (((formI op : Nat) : Int) == 6)) ∧ w' = w) := stores_any op w t
  have HB : Hid (Calls Tryz.prog 62 #[.int .i64 op] w fun e w' => e = .returned (.bool (((formI op : Nat) : Int) == 5)) ∧ w' = w) := branches_any op w t
  have HA : Hid (Calls Tryz.prog 63 #[.int .i64 op] w fun e w' => e = .returned (.bool (((formI op : Nat) : Int) == 14 || ((formI op : Nat) : Int) == 15)) ∧ w' = w) := atomics_any op w t
  rw [hf] at HL HS HB HA
  clear t hf
  go_enter Tryz.func28, Tryz.ntmps28
  go_wp2_with (first | (go_at_call 60; refine HL.out.mono ?_; rintro e w' ⟨rfl, hw⟩; rw [hw]; clear hw) | (go_at_call 61; refine HS.out.mono ?_; rintro e w' ⟨rfl, hw⟩; rw [hw]; clear hw) | (go_at_call 62; refine HB.out.mono ?_; rintro e w' ⟨rfl, hw⟩; rw [hw]; clear hw) | (go_at_call 63; refine HA.out.mono ?_; rintro e w' ⟨rfl, hw⟩; rw [hw]; clear hw))
  go_ret
  exact ⟨rfl, rfl⟩
theorem shape_f6 (op : Int) (h1 : ¬ op = 1) (h2 : ¬ op = 2) (h3 : ¬ op = 3) (h54 : ¬ op = 54) (h55 : ¬ op = 55) (h56 : ¬ op = 56) (h57 : ¬ op = 57) (h58 : ¬ op = 58) (h59 : ¬ op = 59) (h73 : ¬ op = 73) (h84 : ¬ op = 84) (h98 : ¬ op = 98) (h4 : ¬ op = 4) (h22 : ¬ op = 22) (h23 : ¬ op = 23) (h24 : ¬ op = 24) (h25 : ¬ op = 25) (h26 : ¬ op = 26) (h27 : ¬ op = 27) (h28 : ¬ op = 28) (h29 : ¬ op = 29) (h30 : ¬ op = 30) (h41 : ¬ op = 41) (h42 : ¬ op = 42) (h43 : ¬ op = 43) (h44 : ¬ op = 44) (h50 : ¬ op = 50) (h51 : ¬ op = 51) (h52 : ¬ op = 52) (h53 : ¬ op = 53) (h95 : ¬ op = 95) (h96 : ¬ op = 96) (h97 : ¬ op = 97) (hf : formI op = 6) (w : World) (t : Tabs w) : Calls Tryz.prog 28 #[.int .i64 op] w fun e w' => e = .returned (.string (mk [98, 44, 110, 40, 97, 41])) ∧ w' = w := by
  have HL : Hid (Calls Tryz.prog 60 #[.int .i64 op] w fun e w' => e = .returned (.bool (((formI op : Nat) : Int) == 4)) ∧ w' = w) := loads_any op w t
  have HS : Hid (Calls Tryz.prog 61 #[.int .i64 op] w fun e w' => e = .returned (.bool (((formI op : Nat) : Int) == 6)) ∧ w' = w) := stores_any op w t
  have HB : Hid (Calls Tryz.prog 62 #[.int .i64 op] w fun e w' => e = .returned (.bool (((formI op : Nat) : Int) == 5)) ∧ w' = w) := branches_any op w t
  have HA : Hid (Calls Tryz.prog 63 #[.int .i64 op] w fun e w' => e = .returned (.bool (((formI op : Nat) : Int) == 14 || ((formI op : Nat) : Int) == 15)) ∧ w' = w) := atomics_any op w t
  rw [hf] at HL HS HB HA
  clear t hf
  go_enter Tryz.func28, Tryz.ntmps28
  go_wp2_with (first | (go_at_call 60; refine HL.out.mono ?_; rintro e w' ⟨rfl, hw⟩; rw [hw]; clear hw) | (go_at_call 61; refine HS.out.mono ?_; rintro e w' ⟨rfl, hw⟩; rw [hw]; clear hw) | (go_at_call 62; refine HB.out.mono ?_; rintro e w' ⟨rfl, hw⟩; rw [hw]; clear hw) | (go_at_call 63; refine HA.out.mono ?_; rintro e w' ⟨rfl, hw⟩; rw [hw]; clear hw))
  go_ret
  exact ⟨rfl, rfl⟩
theorem shape_f5 (op : Int) (h1 : ¬ op = 1) (h2 : ¬ op = 2) (h3 : ¬ op = 3) (h54 : ¬ op = 54) (h55 : ¬ op = 55) (h56 : ¬ op = 56) (h57 : ¬ op = 57) (h58 : ¬ op = 58) (h59 : ¬ op = 59) (h73 : ¬ op = 73) (h84 : ¬ op = 84) (h98 : ¬ op = 98) (h4 : ¬ op = 4) (h22 : ¬ op = 22) (h23 : ¬ op = 23) (h24 : ¬ op = 24) (h25 : ¬ op = 25) (h26 : ¬ op = 26) (h27 : ¬ op = 27) (h28 : ¬ op = 28) (h29 : ¬ op = 29) (h30 : ¬ op = 30) (h41 : ¬ op = 41) (h42 : ¬ op = 42) (h43 : ¬ op = 43) (h44 : ¬ op = 44) (h50 : ¬ op = 50) (h51 : ¬ op = 51) (h52 : ¬ op = 52) (h53 : ¬ op = 53) (h95 : ¬ op = 95) (h96 : ¬ op = 96) (h97 : ¬ op = 97) (hf : formI op = 5) (w : World) (t : Tabs w) : Calls Tryz.prog 28 #[.int .i64 op] w fun e w' => e = .returned (.string (mk [97, 44, 98, 44, 110])) ∧ w' = w := by
  have HL : Hid (Calls Tryz.prog 60 #[.int .i64 op] w fun e w' => e = .returned (.bool (((formI op : Nat) : Int) == 4)) ∧ w' = w) := loads_any op w t
  have HS : Hid (Calls Tryz.prog 61 #[.int .i64 op] w fun e w' => e = .returned (.bool (((formI op : Nat) : Int) == 6)) ∧ w' = w) := stores_any op w t
  have HB : Hid (Calls Tryz.prog 62 #[.int .i64 op] w fun e w' => e = .returned (.bool (((formI op : Nat) : Int) == 5)) ∧ w' = w) := branches_any op w t
  have HA : Hid (Calls Tryz.prog 63 #[.int .i64 op] w fun e w' => e = .returned (.bool (((formI op : Nat) : Int) == 14 || ((formI op : Nat) : Int) == 15)) ∧ w' = w) := atomics_any op w t
  rw [hf] at HL HS HB HA
  clear t hf
  go_enter Tryz.func28, Tryz.ntmps28
  go_wp2_with (first | (go_at_call 60; refine HL.out.mono ?_; rintro e w' ⟨rfl, hw⟩; rw [hw]; clear hw) | (go_at_call 61; refine HS.out.mono ?_; rintro e w' ⟨rfl, hw⟩; rw [hw]; clear hw) | (go_at_call 62; refine HB.out.mono ?_; rintro e w' ⟨rfl, hw⟩; rw [hw]; clear hw) | (go_at_call 63; refine HA.out.mono ?_; rintro e w' ⟨rfl, hw⟩; rw [hw]; clear hw))
  go_ret
  exact ⟨rfl, rfl⟩
theorem shape_f14 (op : Int) (h1 : ¬ op = 1) (h2 : ¬ op = 2) (h3 : ¬ op = 3) (h54 : ¬ op = 54) (h55 : ¬ op = 55) (h56 : ¬ op = 56) (h57 : ¬ op = 57) (h58 : ¬ op = 58) (h59 : ¬ op = 59) (h73 : ¬ op = 73) (h84 : ¬ op = 84) (h98 : ¬ op = 98) (h4 : ¬ op = 4) (h22 : ¬ op = 22) (h23 : ¬ op = 23) (h24 : ¬ op = 24) (h25 : ¬ op = 25) (h26 : ¬ op = 26) (h27 : ¬ op = 27) (h28 : ¬ op = 28) (h29 : ¬ op = 29) (h30 : ¬ op = 30) (h41 : ¬ op = 41) (h42 : ¬ op = 42) (h43 : ¬ op = 43) (h44 : ¬ op = 44) (h50 : ¬ op = 50) (h51 : ¬ op = 51) (h52 : ¬ op = 52) (h53 : ¬ op = 53) (h95 : ¬ op = 95) (h96 : ¬ op = 96) (h97 : ¬ op = 97) (hf : formI op = 14) (w : World) (t : Tabs w) : Calls Tryz.prog 28 #[.int .i64 op] w fun e w' => e = .returned (.string (mk [100, 44, 98, 44, 40, 97, 41])) ∧ w' = w := by
  have HL : Hid (Calls Tryz.prog 60 #[.int .i64 op] w fun e w' => e = .returned (.bool (((formI op : Nat) : Int) == 4)) ∧ w' = w) := loads_any op w t
  have HS : Hid (Calls Tryz.prog 61 #[.int .i64 op] w fun e w' => e = .returned (.bool (((formI op : Nat) : Int) == 6)) ∧ w' = w) := stores_any op w t
  have HB : Hid (Calls Tryz.prog 62 #[.int .i64 op] w fun e w' => e = .returned (.bool (((formI op : Nat) : Int) == 5)) ∧ w' = w) := branches_any op w t
  have HA : Hid (Calls Tryz.prog 63 #[.int .i64 op] w fun e w' => e = .returned (.bool (((formI op : Nat) : Int) == 14 || ((formI op : Nat) : Int) == 15)) ∧ w' = w) := atomics_any op w t
  rw [hf] at HL HS HB HA
  clear t hf
  go_enter Tryz.func28, Tryz.ntmps28
  go_wp2_with (first | (go_at_call 60; refine HL.out.mono ?_; rintro e w' ⟨rfl, hw⟩; rw [hw]; clear hw) | (go_at_call 61; refine HS.out.mono ?_; rintro e w' ⟨rfl, hw⟩; rw [hw]; clear hw) | (go_at_call 62; refine HB.out.mono ?_; rintro e w' ⟨rfl, hw⟩; rw [hw]; clear hw) | (go_at_call 63; refine HA.out.mono ?_; rintro e w' ⟨rfl, hw⟩; rw [hw]; clear hw))
  go_ret
  exact ⟨rfl, rfl⟩
theorem shape_f15 (op : Int) (h1 : ¬ op = 1) (h2 : ¬ op = 2) (h3 : ¬ op = 3) (h54 : ¬ op = 54) (h55 : ¬ op = 55) (h56 : ¬ op = 56) (h57 : ¬ op = 57) (h58 : ¬ op = 58) (h59 : ¬ op = 59) (h73 : ¬ op = 73) (h84 : ¬ op = 84) (h98 : ¬ op = 98) (h4 : ¬ op = 4) (h22 : ¬ op = 22) (h23 : ¬ op = 23) (h24 : ¬ op = 24) (h25 : ¬ op = 25) (h26 : ¬ op = 26) (h27 : ¬ op = 27) (h28 : ¬ op = 28) (h29 : ¬ op = 29) (h30 : ¬ op = 30) (h41 : ¬ op = 41) (h42 : ¬ op = 42) (h43 : ¬ op = 43) (h44 : ¬ op = 44) (h50 : ¬ op = 50) (h51 : ¬ op = 51) (h52 : ¬ op = 52) (h53 : ¬ op = 53) (h95 : ¬ op = 95) (h96 : ¬ op = 96) (h97 : ¬ op = 97) (hf : formI op = 15) (w : World) (t : Tabs w) : Calls Tryz.prog 28 #[.int .i64 op] w fun e w' => e = .returned (.string (mk [100, 44, 98, 44, 40, 97, 41])) ∧ w' = w := by
  have HL : Hid (Calls Tryz.prog 60 #[.int .i64 op] w fun e w' => e = .returned (.bool (((formI op : Nat) : Int) == 4)) ∧ w' = w) := loads_any op w t
  have HS : Hid (Calls Tryz.prog 61 #[.int .i64 op] w fun e w' => e = .returned (.bool (((formI op : Nat) : Int) == 6)) ∧ w' = w) := stores_any op w t
  have HB : Hid (Calls Tryz.prog 62 #[.int .i64 op] w fun e w' => e = .returned (.bool (((formI op : Nat) : Int) == 5)) ∧ w' = w) := branches_any op w t
  have HA : Hid (Calls Tryz.prog 63 #[.int .i64 op] w fun e w' => e = .returned (.bool (((formI op : Nat) : Int) == 14 || ((formI op : Nat) : Int) == 15)) ∧ w' = w) := atomics_any op w t
  rw [hf] at HL HS HB HA
  clear t hf
  go_enter Tryz.func28, Tryz.ntmps28
  go_wp2_with (first | (go_at_call 60; refine HL.out.mono ?_; rintro e w' ⟨rfl, hw⟩; rw [hw]; clear hw) | (go_at_call 61; refine HS.out.mono ?_; rintro e w' ⟨rfl, hw⟩; rw [hw]; clear hw) | (go_at_call 62; refine HB.out.mono ?_; rintro e w' ⟨rfl, hw⟩; rw [hw]; clear hw) | (go_at_call 63; refine HA.out.mono ?_; rintro e w' ⟨rfl, hw⟩; rw [hw]; clear hw))
  go_ret
  exact ⟨rfl, rfl⟩
theorem shape_f9 (op : Int) (h1 : ¬ op = 1) (h2 : ¬ op = 2) (h3 : ¬ op = 3) (h54 : ¬ op = 54) (h55 : ¬ op = 55) (h56 : ¬ op = 56) (h57 : ¬ op = 57) (h58 : ¬ op = 58) (h59 : ¬ op = 59) (h73 : ¬ op = 73) (h84 : ¬ op = 84) (h98 : ¬ op = 98) (h4 : ¬ op = 4) (h22 : ¬ op = 22) (h23 : ¬ op = 23) (h24 : ¬ op = 24) (h25 : ¬ op = 25) (h26 : ¬ op = 26) (h27 : ¬ op = 27) (h28 : ¬ op = 28) (h29 : ¬ op = 29) (h30 : ¬ op = 30) (h41 : ¬ op = 41) (h42 : ¬ op = 42) (h43 : ¬ op = 43) (h44 : ¬ op = 44) (h50 : ¬ op = 50) (h51 : ¬ op = 51) (h52 : ¬ op = 52) (h53 : ¬ op = 53) (h95 : ¬ op = 95) (h96 : ¬ op = 96) (h97 : ¬ op = 97) (hf : formI op = 9) (w : World) (t : Tabs w) : Calls Tryz.prog 28 #[.int .i64 op] w fun e w' => e = .returned (.string (mk [100, 44, 97, 44, 98])) ∧ w' = w := by
  have HL : Hid (Calls Tryz.prog 60 #[.int .i64 op] w fun e w' => e = .returned (.bool (((formI op : Nat) : Int) == 4)) ∧ w' = w) := loads_any op w t
  have HS : Hid (Calls Tryz.prog 61 #[.int .i64 op] w fun e w' => e = .returned (.bool (((formI op : Nat) : Int) == 6)) ∧ w' = w) := stores_any op w t
  have HB : Hid (Calls Tryz.prog 62 #[.int .i64 op] w fun e w' => e = .returned (.bool (((formI op : Nat) : Int) == 5)) ∧ w' = w) := branches_any op w t
  have HA : Hid (Calls Tryz.prog 63 #[.int .i64 op] w fun e w' => e = .returned (.bool (((formI op : Nat) : Int) == 14 || ((formI op : Nat) : Int) == 15)) ∧ w' = w) := atomics_any op w t
  rw [hf] at HL HS HB HA
  clear t hf
  go_enter Tryz.func28, Tryz.ntmps28
  go_wp2_with (first | (go_at_call 60; refine HL.out.mono ?_; rintro e w' ⟨rfl, hw⟩; rw [hw]; clear hw) | (go_at_call 61; refine HS.out.mono ?_; rintro e w' ⟨rfl, hw⟩; rw [hw]; clear hw) | (go_at_call 62; refine HB.out.mono ?_; rintro e w' ⟨rfl, hw⟩; rw [hw]; clear hw) | (go_at_call 63; refine HA.out.mono ?_; rintro e w' ⟨rfl, hw⟩; rw [hw]; clear hw))
  go_ret
  exact ⟨rfl, rfl⟩
def shapesT : List (List UInt8) := [[], [100, 44, 117], [100, 44, 117], [100, 44, 110], [100, 44, 97, 44, 110], [97, 44, 98, 44, 110], [97, 44, 98, 44, 110], [97, 44, 98, 44, 110], [97, 44, 98, 44, 110], [97, 44, 98, 44, 110], [97, 44, 98, 44, 110], [100, 44, 110, 40, 97, 41], [100, 44, 110, 40, 97, 41], [100, 44, 110, 40, 97, 41], [100, 44, 110, 40, 97, 41], [100, 44, 110, 40, 97, 41], [100, 44, 110, 40, 97, 41], [100, 44, 110, 40, 97, 41], [98, 44, 110, 40, 97, 41], [98, 44, 110, 40, 97, 41], [98, 44, 110, 40, 97, 41], [98, 44, 110, 40, 97, 41], [100, 44, 97, 44, 110], [100, 44, 97, 44, 110], [100, 44, 97, 44, 110], [100, 44, 97, 44, 110], [100, 44, 97, 44, 110], [100, 44, 97, 44, 110], [100, 44, 97, 44, 110], [100, 44, 97, 44, 110], [100, 44, 97, 44, 110], [100, 44, 97, 44, 98], [100, 44, 97, 44, 98], [100, 44, 97, 44, 98], [100, 44, 97, 44, 98], [100, 44, 97, 44, 98], [100, 44, 97, 44, 98], [100, 44, 97, 44, 98], [100, 44, 97, 44, 98], [100, 44, 97, 44, 98], [100, 44, 97, 44, 98], [100, 44, 97, 44, 110], [100, 44, 97, 44, 110], [100, 44, 97, 44, 110], [100, 44, 97, 44, 110], [100, 44, 97, 44, 98], [100, 44, 97, 44, 98], [100, 44, 97, 44, 98], [100, 44, 97, 44, 98], [100, 44, 97, 44, 98], [100, 44, 97, 44, 110], [100, 44, 97, 44, 110], [], [], [100, 44, 99, 44, 97], [100, 44, 99, 44, 97], [100, 44, 99, 44, 97], [100, 44, 99, 44, 110], [100, 44, 99, 44, 110], [100, 44, 99, 44, 110], [100, 44, 97, 44, 98], [100, 44, 97, 44, 98], [100, 44, 97, 44, 98], [100, 44, 97, 44, 98], [100, 44, 97, 44, 98], [100, 44, 97, 44, 98], [100, 44, 97, 44, 98], [100, 44, 97, 44, 98], [100, 44, 97, 44, 98], [100, 44, 97, 44, 98], [100, 44, 97, 44, 98], [100, 44, 97, 44, 98], [100, 44, 97, 44, 98], [100, 44, 40, 97, 41], [100, 44, 98, 44, 40, 97, 41], [100, 44, 98, 44, 40, 97, 41], [100, 44, 98, 44, 40, 97, 41], [100, 44, 98, 44, 40, 97, 41], [100, 44, 98, 44, 40, 97, 41], [100, 44, 98, 44, 40, 97, 41], [100, 44, 98, 44, 40, 97, 41], [100, 44, 98, 44, 40, 97, 41], [100, 44, 98, 44, 40, 97, 41], [100, 44, 98, 44, 40, 97, 41], [100, 44, 40, 97, 41], [100, 44, 98, 44, 40, 97, 41], [100, 44, 98, 44, 40, 97, 41], [100, 44, 98, 44, 40, 97, 41], [100, 44, 98, 44, 40, 97, 41], [100, 44, 98, 44, 40, 97, 41], [100, 44, 98, 44, 40, 97, 41], [100, 44, 98, 44, 40, 97, 41], [100, 44, 98, 44, 40, 97, 41], [100, 44, 98, 44, 40, 97, 41], [100, 44, 98, 44, 40, 97, 41], [], [], [], [97, 44, 98]]
def switchT : List Nat := [1, 2, 3, 54, 55, 56, 57, 58, 59, 73, 84, 98, 4, 22, 23, 24, 25, 26, 27, 28, 29, 30, 41, 42, 43, 44, 50, 51, 52, 53, 95, 96, 97]
def shapeB (k : Nat) : Bool := switchT.contains k || ((formsT.getD k 0 == 4 && shapesT.getD k [] == [100, 44, 110, 40, 97, 41]) || ((formsT.getD k 0 == 6 && shapesT.getD k [] == [98, 44, 110, 40, 97, 41]) || ((formsT.getD k 0 == 5 && shapesT.getD k [] == [97, 44, 98, 44, 110]) || ((formsT.getD k 0 == 14 && shapesT.getD k [] == [100, 44, 98, 44, 40, 97, 41]) || ((formsT.getD k 0 == 15 && shapesT.getD k [] == [100, 44, 98, 44, 40, 97, 41]) || ((formsT.getD k 0 == 9 && shapesT.getD k [] == [100, 44, 97, 44, 98])))))))
theorem shapeB_all : ((List.range 99).all fun k => k == 0 || shapeB k) = true := by decide +kernel
theorem shapes_form (k : Nat) (h2 : k < 99) (h1 : 1 ≤ k) : switchT.contains k = true ∨ ((formsT.getD k 0 = 4 ∧ shapesT.getD k [] = [100, 44, 110, 40, 97, 41]) ∨ ((formsT.getD k 0 = 6 ∧ shapesT.getD k [] = [98, 44, 110, 40, 97, 41]) ∨ ((formsT.getD k 0 = 5 ∧ shapesT.getD k [] = [97, 44, 98, 44, 110]) ∨ ((formsT.getD k 0 = 14 ∧ shapesT.getD k [] = [100, 44, 98, 44, 40, 97, 41]) ∨ ((formsT.getD k 0 = 15 ∧ shapesT.getD k [] = [100, 44, 98, 44, 40, 97, 41]) ∨ ((formsT.getD k 0 = 9 ∧ shapesT.getD k [] = [100, 44, 97, 44, 98]))))))) := by
  have h := List.all_eq_true.1 shapeB_all k (List.mem_range.2 h2)
  simp only [shapeB, Bool.or_eq_true, Bool.and_eq_true, beq_iff_eq] at h
  rcases h with h | h
  · omega
  · exact h
theorem shape_any (k : Nat) (hk1 : 1 ≤ k) (hk2 : k < 99) (w : World) (t : Tabs w) : Calls Tryz.prog 28 #[.int .i64 (k : Nat)] w fun e w' => e = .returned (.string (mk (shapesT.getD k []))) ∧ w' = w := by
  by_cases h1 : k = 1
  · subst h1; exact shape_1 w
  by_cases h2 : k = 2
  · subst h2; exact shape_2 w
  by_cases h3 : k = 3
  · subst h3; exact shape_3 w
  by_cases h54 : k = 54
  · subst h54; exact shape_54 w
  by_cases h55 : k = 55
  · subst h55; exact shape_55 w
  by_cases h56 : k = 56
  · subst h56; exact shape_56 w
  by_cases h57 : k = 57
  · subst h57; exact shape_57 w
  by_cases h58 : k = 58
  · subst h58; exact shape_58 w
  by_cases h59 : k = 59
  · subst h59; exact shape_59 w
  by_cases h73 : k = 73
  · subst h73; exact shape_73 w
  by_cases h84 : k = 84
  · subst h84; exact shape_84 w
  by_cases h98 : k = 98
  · subst h98; exact shape_98 w
  by_cases h4 : k = 4
  · subst h4; exact shape_4 w
  by_cases h22 : k = 22
  · subst h22; exact shape_22 w
  by_cases h23 : k = 23
  · subst h23; exact shape_23 w
  by_cases h24 : k = 24
  · subst h24; exact shape_24 w
  by_cases h25 : k = 25
  · subst h25; exact shape_25 w
  by_cases h26 : k = 26
  · subst h26; exact shape_26 w
  by_cases h27 : k = 27
  · subst h27; exact shape_27 w
  by_cases h28 : k = 28
  · subst h28; exact shape_28 w
  by_cases h29 : k = 29
  · subst h29; exact shape_29 w
  by_cases h30 : k = 30
  · subst h30; exact shape_30 w
  by_cases h41 : k = 41
  · subst h41; exact shape_41 w
  by_cases h42 : k = 42
  · subst h42; exact shape_42 w
  by_cases h43 : k = 43
  · subst h43; exact shape_43 w
  by_cases h44 : k = 44
  · subst h44; exact shape_44 w
  by_cases h50 : k = 50
  · subst h50; exact shape_50 w
  by_cases h51 : k = 51
  · subst h51; exact shape_51 w
  by_cases h52 : k = 52
  · subst h52; exact shape_52 w
  by_cases h53 : k = 53
  · subst h53; exact shape_53 w
  by_cases h95 : k = 95
  · subst h95; exact shape_95 w
  by_cases h96 : k = 96
  · subst h96; exact shape_96 w
  by_cases h97 : k = 97
  · subst h97; exact shape_97 w
  have g := formI_yes k hk1 hk2
  have g1 : ¬ (k : Int) = 1 := by omega
  have g2 : ¬ (k : Int) = 2 := by omega
  have g3 : ¬ (k : Int) = 3 := by omega
  have g54 : ¬ (k : Int) = 54 := by omega
  have g55 : ¬ (k : Int) = 55 := by omega
  have g56 : ¬ (k : Int) = 56 := by omega
  have g57 : ¬ (k : Int) = 57 := by omega
  have g58 : ¬ (k : Int) = 58 := by omega
  have g59 : ¬ (k : Int) = 59 := by omega
  have g73 : ¬ (k : Int) = 73 := by omega
  have g84 : ¬ (k : Int) = 84 := by omega
  have g98 : ¬ (k : Int) = 98 := by omega
  have g4 : ¬ (k : Int) = 4 := by omega
  have g22 : ¬ (k : Int) = 22 := by omega
  have g23 : ¬ (k : Int) = 23 := by omega
  have g24 : ¬ (k : Int) = 24 := by omega
  have g25 : ¬ (k : Int) = 25 := by omega
  have g26 : ¬ (k : Int) = 26 := by omega
  have g27 : ¬ (k : Int) = 27 := by omega
  have g28 : ¬ (k : Int) = 28 := by omega
  have g29 : ¬ (k : Int) = 29 := by omega
  have g30 : ¬ (k : Int) = 30 := by omega
  have g41 : ¬ (k : Int) = 41 := by omega
  have g42 : ¬ (k : Int) = 42 := by omega
  have g43 : ¬ (k : Int) = 43 := by omega
  have g44 : ¬ (k : Int) = 44 := by omega
  have g50 : ¬ (k : Int) = 50 := by omega
  have g51 : ¬ (k : Int) = 51 := by omega
  have g52 : ¬ (k : Int) = 52 := by omega
  have g53 : ¬ (k : Int) = 53 := by omega
  have g95 : ¬ (k : Int) = 95 := by omega
  have g96 : ¬ (k : Int) = 96 := by omega
  have g97 : ¬ (k : Int) = 97 := by omega
  rcases shapes_form k hk2 hk1 with h | ⟨e1, e2⟩ | ⟨e1, e2⟩ | ⟨e1, e2⟩ | ⟨e1, e2⟩ | ⟨e1, e2⟩ | ⟨e1, e2⟩
  · exfalso; simp [switchT] at h; omega
  · rw [e2]; exact shape_f4 k g1 g2 g3 g54 g55 g56 g57 g58 g59 g73 g84 g98 g4 g22 g23 g24 g25 g26 g27 g28 g29 g30 g41 g42 g43 g44 g50 g51 g52 g53 g95 g96 g97 (by rw [g, e1]) w t
  · rw [e2]; exact shape_f6 k g1 g2 g3 g54 g55 g56 g57 g58 g59 g73 g84 g98 g4 g22 g23 g24 g25 g26 g27 g28 g29 g30 g41 g42 g43 g44 g50 g51 g52 g53 g95 g96 g97 (by rw [g, e1]) w t
  · rw [e2]; exact shape_f5 k g1 g2 g3 g54 g55 g56 g57 g58 g59 g73 g84 g98 g4 g22 g23 g24 g25 g26 g27 g28 g29 g30 g41 g42 g43 g44 g50 g51 g52 g53 g95 g96 g97 (by rw [g, e1]) w t
  · rw [e2]; exact shape_f14 k g1 g2 g3 g54 g55 g56 g57 g58 g59 g73 g84 g98 g4 g22 g23 g24 g25 g26 g27 g28 g29 g30 g41 g42 g43 g44 g50 g51 g52 g53 g95 g96 g97 (by rw [g, e1]) w t
  · rw [e2]; exact shape_f15 k g1 g2 g3 g54 g55 g56 g57 g58 g59 g73 g84 g98 g4 g22 g23 g24 g25 g26 g27 g28 g29 g30 g41 g42 g43 g44 g50 g51 g52 g53 g95 g96 g97 (by rw [g, e1]) w t
  · rw [e2]; exact shape_f9 k g1 g2 g3 g54 g55 g56 g57 g58 g59 g73 g84 g98 g4 g22 g23 g24 g25 g26 g27 g28 g29 g30 g41 g42 g43 g44 g50 g51 g52 g53 g95 g96 g97 (by rw [g, e1]) w t
end Go.Proofs.YtooaafbdjnlmfaaGreatDoor
