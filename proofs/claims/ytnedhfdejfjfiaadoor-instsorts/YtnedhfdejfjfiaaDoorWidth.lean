/- The calls Width of layer 3, the program's and the document's. -/
import Derived.Test.YtnedhfdejfjfiaaDoorSorts
import Derived.Test.YtnedhfdejfjfiaaDoorDocOf
import Derived.Test.YtnedhfdejfjfiaaDoorOutI
namespace Go.Proofs.YtnedhfdejfjfiaaDoor
open Go.RowKit
set_option linter.unusedVariables false
set_option linter.unusedSimpArgs false
theorem words_lt : ∀ o, o < 99 → wordsT.getD o 0 < 4294967296 := by decide +kernel
theorem f3_any (k q : Nat) (h : k < 99) (hq : wordsT.getD k 0 / 4096 % 8 = q) (w : World) (t : Tabs w) : Calls Tryd.prog 42 #[.int .i64 (k : Nat)] w fun e w' => e = .returned (.int .i64 (q : Nat)) ∧ w' = w := by
  have hc := t.1 k h
  have hl := words_lt k h
  have hk : (k : Int) < 99 := by omega
  generalize wordsT.getD k 0 = x at *
  have hb : bits .and .u32 ((x : Int) / 4096) 7 = ((q : Nat) : Int) := by
    have := u32_and_nat (x / 4096) 7 (by omega) (by omega)
    rw [show (7 : Nat) = 2 ^ 3 - 1 from rfl, Nat.and_two_pow_sub_one_eq_mod, show (2 : Nat) ^ 3 = 8 from rfl, hq] at this
    rw [← this]
    simp
  have hq8 : (q : Int) < 8 := by omega
  clear t hq
  go_enter Tryd.func42, Tryd.ntmps42
  go_wp2
  go_ret
  exact ⟨rfl, rfl⟩
theorem width_load0 (k : Nat) (h : k < 99) (hf : formI (k : Nat) = 4) (hq : wordsT.getD k 0 / 4096 % 8 = 0) (w : World) (t : Tabs w) : Calls Tryd.prog 20 #[.int .i64 (k : Nat)] w fun e w' => e = .returned (.int .i64 1) ∧ w' = w := by
  have hL := loads_any (k : Nat) w t
  rw [hf] at hL
  have HL : Hid _ := hL
  have H3 : Hid _ := f3_any k 0 h hq w t
  clear hL t
  go_enter Tryd.func20, Tryd.ntmps20
  go_wp2_with fail
  refine Calls.mono (by exact HL.out) ?_
  rintro e w' ⟨rfl, hw⟩
  rw [hw]
  clear hw
  go_wp2_with fail
  refine Calls.mono (by exact H3.out) ?_
  rintro e w' ⟨rfl, hw⟩
  rw [hw]
  clear hw
  go_wp2
  go_ret
  exact ⟨by first | rfl | simp, rfl⟩
theorem width_load1 (k : Nat) (h : k < 99) (hf : formI (k : Nat) = 4) (hq : wordsT.getD k 0 / 4096 % 8 = 1) (w : World) (t : Tabs w) : Calls Tryd.prog 20 #[.int .i64 (k : Nat)] w fun e w' => e = .returned (.int .i64 2) ∧ w' = w := by
  have hL := loads_any (k : Nat) w t
  rw [hf] at hL
  have HL : Hid _ := hL
  have H3 : Hid _ := f3_any k 1 h hq w t
  clear hL t
  go_enter Tryd.func20, Tryd.ntmps20
  go_wp2_with fail
  refine Calls.mono (by exact HL.out) ?_
  rintro e w' ⟨rfl, hw⟩
  rw [hw]
  clear hw
  go_wp2_with fail
  refine Calls.mono (by exact H3.out) ?_
  rintro e w' ⟨rfl, hw⟩
  rw [hw]
  clear hw
  go_wp2
  go_ret
  exact ⟨by first | rfl | simp, rfl⟩
theorem width_load2 (k : Nat) (h : k < 99) (hf : formI (k : Nat) = 4) (hq : wordsT.getD k 0 / 4096 % 8 = 2) (w : World) (t : Tabs w) : Calls Tryd.prog 20 #[.int .i64 (k : Nat)] w fun e w' => e = .returned (.int .i64 4) ∧ w' = w := by
  have hL := loads_any (k : Nat) w t
  rw [hf] at hL
  have HL : Hid _ := hL
  have H3 : Hid _ := f3_any k 2 h hq w t
  clear hL t
  go_enter Tryd.func20, Tryd.ntmps20
  go_wp2_with fail
  refine Calls.mono (by exact HL.out) ?_
  rintro e w' ⟨rfl, hw⟩
  rw [hw]
  clear hw
  go_wp2_with fail
  refine Calls.mono (by exact H3.out) ?_
  rintro e w' ⟨rfl, hw⟩
  rw [hw]
  clear hw
  go_wp2
  go_ret
  exact ⟨by first | rfl | simp, rfl⟩
theorem width_load3 (k : Nat) (h : k < 99) (hf : formI (k : Nat) = 4) (hq : wordsT.getD k 0 / 4096 % 8 = 3) (w : World) (t : Tabs w) : Calls Tryd.prog 20 #[.int .i64 (k : Nat)] w fun e w' => e = .returned (.int .i64 8) ∧ w' = w := by
  have hL := loads_any (k : Nat) w t
  rw [hf] at hL
  have HL : Hid _ := hL
  have H3 : Hid _ := f3_any k 3 h hq w t
  clear hL t
  go_enter Tryd.func20, Tryd.ntmps20
  go_wp2_with fail
  refine Calls.mono (by exact HL.out) ?_
  rintro e w' ⟨rfl, hw⟩
  rw [hw]
  clear hw
  go_wp2_with fail
  refine Calls.mono (by exact H3.out) ?_
  rintro e w' ⟨rfl, hw⟩
  rw [hw]
  clear hw
  go_wp2
  go_ret
  exact ⟨by first | rfl | simp, rfl⟩
theorem width_load4 (k : Nat) (h : k < 99) (hf : formI (k : Nat) = 4) (hq : wordsT.getD k 0 / 4096 % 8 = 4) (w : World) (t : Tabs w) : Calls Tryd.prog 20 #[.int .i64 (k : Nat)] w fun e w' => e = .returned (.int .i64 1) ∧ w' = w := by
  have hL := loads_any (k : Nat) w t
  rw [hf] at hL
  have HL : Hid _ := hL
  have H3 : Hid _ := f3_any k 4 h hq w t
  clear hL t
  go_enter Tryd.func20, Tryd.ntmps20
  go_wp2_with fail
  refine Calls.mono (by exact HL.out) ?_
  rintro e w' ⟨rfl, hw⟩
  rw [hw]
  clear hw
  go_wp2_with fail
  refine Calls.mono (by exact H3.out) ?_
  rintro e w' ⟨rfl, hw⟩
  rw [hw]
  clear hw
  go_wp2
  go_ret
  exact ⟨by first | rfl | simp, rfl⟩
theorem width_load5 (k : Nat) (h : k < 99) (hf : formI (k : Nat) = 4) (hq : wordsT.getD k 0 / 4096 % 8 = 5) (w : World) (t : Tabs w) : Calls Tryd.prog 20 #[.int .i64 (k : Nat)] w fun e w' => e = .returned (.int .i64 2) ∧ w' = w := by
  have hL := loads_any (k : Nat) w t
  rw [hf] at hL
  have HL : Hid _ := hL
  have H3 : Hid _ := f3_any k 5 h hq w t
  clear hL t
  go_enter Tryd.func20, Tryd.ntmps20
  go_wp2_with fail
  refine Calls.mono (by exact HL.out) ?_
  rintro e w' ⟨rfl, hw⟩
  rw [hw]
  clear hw
  go_wp2_with fail
  refine Calls.mono (by exact H3.out) ?_
  rintro e w' ⟨rfl, hw⟩
  rw [hw]
  clear hw
  go_wp2
  go_ret
  exact ⟨by first | rfl | simp, rfl⟩
theorem width_load6 (k : Nat) (h : k < 99) (hf : formI (k : Nat) = 4) (hq : wordsT.getD k 0 / 4096 % 8 = 6) (w : World) (t : Tabs w) : Calls Tryd.prog 20 #[.int .i64 (k : Nat)] w fun e w' => e = .returned (.int .i64 4) ∧ w' = w := by
  have hL := loads_any (k : Nat) w t
  rw [hf] at hL
  have HL : Hid _ := hL
  have H3 : Hid _ := f3_any k 6 h hq w t
  clear hL t
  go_enter Tryd.func20, Tryd.ntmps20
  go_wp2_with fail
  refine Calls.mono (by exact HL.out) ?_
  rintro e w' ⟨rfl, hw⟩
  rw [hw]
  clear hw
  go_wp2_with fail
  refine Calls.mono (by exact H3.out) ?_
  rintro e w' ⟨rfl, hw⟩
  rw [hw]
  clear hw
  go_wp2
  go_ret
  exact ⟨by first | rfl | simp, rfl⟩
theorem width_load7 (k : Nat) (h : k < 99) (hf : formI (k : Nat) = 4) (hq : wordsT.getD k 0 / 4096 % 8 = 7) (w : World) (t : Tabs w) : Calls Tryd.prog 20 #[.int .i64 (k : Nat)] w fun e w' => e = .returned (.int .i64 8) ∧ w' = w := by
  have hL := loads_any (k : Nat) w t
  rw [hf] at hL
  have HL : Hid _ := hL
  have H3 : Hid _ := f3_any k 7 h hq w t
  clear hL t
  go_enter Tryd.func20, Tryd.ntmps20
  go_wp2_with fail
  refine Calls.mono (by exact HL.out) ?_
  rintro e w' ⟨rfl, hw⟩
  rw [hw]
  clear hw
  go_wp2_with fail
  refine Calls.mono (by exact H3.out) ?_
  rintro e w' ⟨rfl, hw⟩
  rw [hw]
  clear hw
  go_wp2
  go_ret
  exact ⟨by first | rfl | simp, rfl⟩
theorem width_at6_0 (k : Nat) (h : k < 99) (hf : formI (k : Nat) = 6) (hq : wordsT.getD k 0 / 4096 % 8 = 0) (w : World) (t : Tabs w) : Calls Tryd.prog 20 #[.int .i64 (k : Nat)] w fun e w' => e = .returned (.int .i64 1) ∧ w' = w := by
  have hL := loads_any (k : Nat) w t
  have hS := stores_any (k : Nat) w t
  have hA := atomics_any (k : Nat) w t
  rw [hf] at hL hS hA
  have HL : Hid _ := hL
  have HS : Hid _ := hS
  have HA : Hid _ := hA
  have H3 : Hid _ := f3_any k 0 h hq w t
  clear hL hS hA t
  go_enter Tryd.func20, Tryd.ntmps20
  go_wp2_with fail
  refine Calls.mono (by exact HL.out) ?_
  rintro e w' ⟨rfl, hw⟩
  rw [hw]
  clear hw
  go_wp2_with fail
  refine Calls.mono (by exact HS.out) ?_
  rintro e w' ⟨rfl, hw⟩
  rw [hw]
  clear hw
  go_wp2_with fail
  refine Calls.mono (by exact H3.out) ?_
  rintro e w' ⟨rfl, hw⟩
  rw [hw]
  clear hw
  go_wp2
  go_ret
  exact ⟨by first | rfl | simp, rfl⟩
theorem width_at14_0 (k : Nat) (h : k < 99) (hf : formI (k : Nat) = 14) (hq : wordsT.getD k 0 / 4096 % 8 = 0) (w : World) (t : Tabs w) : Calls Tryd.prog 20 #[.int .i64 (k : Nat)] w fun e w' => e = .returned (.int .i64 1) ∧ w' = w := by
  have hL := loads_any (k : Nat) w t
  have hS := stores_any (k : Nat) w t
  have hA := atomics_any (k : Nat) w t
  rw [hf] at hL hS hA
  have HL : Hid _ := hL
  have HS : Hid _ := hS
  have HA : Hid _ := hA
  have H3 : Hid _ := f3_any k 0 h hq w t
  clear hL hS hA t
  go_enter Tryd.func20, Tryd.ntmps20
  go_wp2_with fail
  refine Calls.mono (by exact HL.out) ?_
  rintro e w' ⟨rfl, hw⟩
  rw [hw]
  clear hw
  go_wp2_with fail
  refine Calls.mono (by exact HS.out) ?_
  rintro e w' ⟨rfl, hw⟩
  rw [hw]
  clear hw
  go_wp2_with fail
  refine Calls.mono (by exact HA.out) ?_
  rintro e w' ⟨rfl, hw⟩
  rw [hw]
  clear hw
  go_wp2_with fail
  refine Calls.mono (by exact H3.out) ?_
  rintro e w' ⟨rfl, hw⟩
  rw [hw]
  clear hw
  go_wp2
  go_ret
  exact ⟨by first | rfl | simp, rfl⟩
theorem width_at15_0 (k : Nat) (h : k < 99) (hf : formI (k : Nat) = 15) (hq : wordsT.getD k 0 / 4096 % 8 = 0) (w : World) (t : Tabs w) : Calls Tryd.prog 20 #[.int .i64 (k : Nat)] w fun e w' => e = .returned (.int .i64 1) ∧ w' = w := by
  have hL := loads_any (k : Nat) w t
  have hS := stores_any (k : Nat) w t
  have hA := atomics_any (k : Nat) w t
  rw [hf] at hL hS hA
  have HL : Hid _ := hL
  have HS : Hid _ := hS
  have HA : Hid _ := hA
  have H3 : Hid _ := f3_any k 0 h hq w t
  clear hL hS hA t
  go_enter Tryd.func20, Tryd.ntmps20
  go_wp2_with fail
  refine Calls.mono (by exact HL.out) ?_
  rintro e w' ⟨rfl, hw⟩
  rw [hw]
  clear hw
  go_wp2_with fail
  refine Calls.mono (by exact HS.out) ?_
  rintro e w' ⟨rfl, hw⟩
  rw [hw]
  clear hw
  go_wp2_with fail
  refine Calls.mono (by exact HA.out) ?_
  rintro e w' ⟨rfl, hw⟩
  rw [hw]
  clear hw
  go_wp2_with fail
  refine Calls.mono (by exact H3.out) ?_
  rintro e w' ⟨rfl, hw⟩
  rw [hw]
  clear hw
  go_wp2
  go_ret
  exact ⟨by first | rfl | simp, rfl⟩
theorem width_at6_1 (k : Nat) (h : k < 99) (hf : formI (k : Nat) = 6) (hq : wordsT.getD k 0 / 4096 % 8 = 1) (w : World) (t : Tabs w) : Calls Tryd.prog 20 #[.int .i64 (k : Nat)] w fun e w' => e = .returned (.int .i64 2) ∧ w' = w := by
  have hL := loads_any (k : Nat) w t
  have hS := stores_any (k : Nat) w t
  have hA := atomics_any (k : Nat) w t
  rw [hf] at hL hS hA
  have HL : Hid _ := hL
  have HS : Hid _ := hS
  have HA : Hid _ := hA
  have H3 : Hid _ := f3_any k 1 h hq w t
  clear hL hS hA t
  go_enter Tryd.func20, Tryd.ntmps20
  go_wp2_with fail
  refine Calls.mono (by exact HL.out) ?_
  rintro e w' ⟨rfl, hw⟩
  rw [hw]
  clear hw
  go_wp2_with fail
  refine Calls.mono (by exact HS.out) ?_
  rintro e w' ⟨rfl, hw⟩
  rw [hw]
  clear hw
  go_wp2_with fail
  refine Calls.mono (by exact H3.out) ?_
  rintro e w' ⟨rfl, hw⟩
  rw [hw]
  clear hw
  go_wp2
  go_ret
  exact ⟨by first | rfl | simp, rfl⟩
theorem width_at14_1 (k : Nat) (h : k < 99) (hf : formI (k : Nat) = 14) (hq : wordsT.getD k 0 / 4096 % 8 = 1) (w : World) (t : Tabs w) : Calls Tryd.prog 20 #[.int .i64 (k : Nat)] w fun e w' => e = .returned (.int .i64 2) ∧ w' = w := by
  have hL := loads_any (k : Nat) w t
  have hS := stores_any (k : Nat) w t
  have hA := atomics_any (k : Nat) w t
  rw [hf] at hL hS hA
  have HL : Hid _ := hL
  have HS : Hid _ := hS
  have HA : Hid _ := hA
  have H3 : Hid _ := f3_any k 1 h hq w t
  clear hL hS hA t
  go_enter Tryd.func20, Tryd.ntmps20
  go_wp2_with fail
  refine Calls.mono (by exact HL.out) ?_
  rintro e w' ⟨rfl, hw⟩
  rw [hw]
  clear hw
  go_wp2_with fail
  refine Calls.mono (by exact HS.out) ?_
  rintro e w' ⟨rfl, hw⟩
  rw [hw]
  clear hw
  go_wp2_with fail
  refine Calls.mono (by exact HA.out) ?_
  rintro e w' ⟨rfl, hw⟩
  rw [hw]
  clear hw
  go_wp2_with fail
  refine Calls.mono (by exact H3.out) ?_
  rintro e w' ⟨rfl, hw⟩
  rw [hw]
  clear hw
  go_wp2
  go_ret
  exact ⟨by first | rfl | simp, rfl⟩
theorem width_at15_1 (k : Nat) (h : k < 99) (hf : formI (k : Nat) = 15) (hq : wordsT.getD k 0 / 4096 % 8 = 1) (w : World) (t : Tabs w) : Calls Tryd.prog 20 #[.int .i64 (k : Nat)] w fun e w' => e = .returned (.int .i64 2) ∧ w' = w := by
  have hL := loads_any (k : Nat) w t
  have hS := stores_any (k : Nat) w t
  have hA := atomics_any (k : Nat) w t
  rw [hf] at hL hS hA
  have HL : Hid _ := hL
  have HS : Hid _ := hS
  have HA : Hid _ := hA
  have H3 : Hid _ := f3_any k 1 h hq w t
  clear hL hS hA t
  go_enter Tryd.func20, Tryd.ntmps20
  go_wp2_with fail
  refine Calls.mono (by exact HL.out) ?_
  rintro e w' ⟨rfl, hw⟩
  rw [hw]
  clear hw
  go_wp2_with fail
  refine Calls.mono (by exact HS.out) ?_
  rintro e w' ⟨rfl, hw⟩
  rw [hw]
  clear hw
  go_wp2_with fail
  refine Calls.mono (by exact HA.out) ?_
  rintro e w' ⟨rfl, hw⟩
  rw [hw]
  clear hw
  go_wp2_with fail
  refine Calls.mono (by exact H3.out) ?_
  rintro e w' ⟨rfl, hw⟩
  rw [hw]
  clear hw
  go_wp2
  go_ret
  exact ⟨by first | rfl | simp, rfl⟩
theorem width_at6_2 (k : Nat) (h : k < 99) (hf : formI (k : Nat) = 6) (hq : wordsT.getD k 0 / 4096 % 8 = 2) (w : World) (t : Tabs w) : Calls Tryd.prog 20 #[.int .i64 (k : Nat)] w fun e w' => e = .returned (.int .i64 4) ∧ w' = w := by
  have hL := loads_any (k : Nat) w t
  have hS := stores_any (k : Nat) w t
  have hA := atomics_any (k : Nat) w t
  rw [hf] at hL hS hA
  have HL : Hid _ := hL
  have HS : Hid _ := hS
  have HA : Hid _ := hA
  have H3 : Hid _ := f3_any k 2 h hq w t
  clear hL hS hA t
  go_enter Tryd.func20, Tryd.ntmps20
  go_wp2_with fail
  refine Calls.mono (by exact HL.out) ?_
  rintro e w' ⟨rfl, hw⟩
  rw [hw]
  clear hw
  go_wp2_with fail
  refine Calls.mono (by exact HS.out) ?_
  rintro e w' ⟨rfl, hw⟩
  rw [hw]
  clear hw
  go_wp2_with fail
  refine Calls.mono (by exact H3.out) ?_
  rintro e w' ⟨rfl, hw⟩
  rw [hw]
  clear hw
  go_wp2
  go_ret
  exact ⟨by first | rfl | simp, rfl⟩
theorem width_at14_2 (k : Nat) (h : k < 99) (hf : formI (k : Nat) = 14) (hq : wordsT.getD k 0 / 4096 % 8 = 2) (w : World) (t : Tabs w) : Calls Tryd.prog 20 #[.int .i64 (k : Nat)] w fun e w' => e = .returned (.int .i64 4) ∧ w' = w := by
  have hL := loads_any (k : Nat) w t
  have hS := stores_any (k : Nat) w t
  have hA := atomics_any (k : Nat) w t
  rw [hf] at hL hS hA
  have HL : Hid _ := hL
  have HS : Hid _ := hS
  have HA : Hid _ := hA
  have H3 : Hid _ := f3_any k 2 h hq w t
  clear hL hS hA t
  go_enter Tryd.func20, Tryd.ntmps20
  go_wp2_with fail
  refine Calls.mono (by exact HL.out) ?_
  rintro e w' ⟨rfl, hw⟩
  rw [hw]
  clear hw
  go_wp2_with fail
  refine Calls.mono (by exact HS.out) ?_
  rintro e w' ⟨rfl, hw⟩
  rw [hw]
  clear hw
  go_wp2_with fail
  refine Calls.mono (by exact HA.out) ?_
  rintro e w' ⟨rfl, hw⟩
  rw [hw]
  clear hw
  go_wp2_with fail
  refine Calls.mono (by exact H3.out) ?_
  rintro e w' ⟨rfl, hw⟩
  rw [hw]
  clear hw
  go_wp2
  go_ret
  exact ⟨by first | rfl | simp, rfl⟩
theorem width_at15_2 (k : Nat) (h : k < 99) (hf : formI (k : Nat) = 15) (hq : wordsT.getD k 0 / 4096 % 8 = 2) (w : World) (t : Tabs w) : Calls Tryd.prog 20 #[.int .i64 (k : Nat)] w fun e w' => e = .returned (.int .i64 4) ∧ w' = w := by
  have hL := loads_any (k : Nat) w t
  have hS := stores_any (k : Nat) w t
  have hA := atomics_any (k : Nat) w t
  rw [hf] at hL hS hA
  have HL : Hid _ := hL
  have HS : Hid _ := hS
  have HA : Hid _ := hA
  have H3 : Hid _ := f3_any k 2 h hq w t
  clear hL hS hA t
  go_enter Tryd.func20, Tryd.ntmps20
  go_wp2_with fail
  refine Calls.mono (by exact HL.out) ?_
  rintro e w' ⟨rfl, hw⟩
  rw [hw]
  clear hw
  go_wp2_with fail
  refine Calls.mono (by exact HS.out) ?_
  rintro e w' ⟨rfl, hw⟩
  rw [hw]
  clear hw
  go_wp2_with fail
  refine Calls.mono (by exact HA.out) ?_
  rintro e w' ⟨rfl, hw⟩
  rw [hw]
  clear hw
  go_wp2_with fail
  refine Calls.mono (by exact H3.out) ?_
  rintro e w' ⟨rfl, hw⟩
  rw [hw]
  clear hw
  go_wp2
  go_ret
  exact ⟨by first | rfl | simp, rfl⟩
theorem width_at6_3 (k : Nat) (h : k < 99) (hf : formI (k : Nat) = 6) (hq : wordsT.getD k 0 / 4096 % 8 = 3) (w : World) (t : Tabs w) : Calls Tryd.prog 20 #[.int .i64 (k : Nat)] w fun e w' => e = .returned (.int .i64 8) ∧ w' = w := by
  have hL := loads_any (k : Nat) w t
  have hS := stores_any (k : Nat) w t
  have hA := atomics_any (k : Nat) w t
  rw [hf] at hL hS hA
  have HL : Hid _ := hL
  have HS : Hid _ := hS
  have HA : Hid _ := hA
  have H3 : Hid _ := f3_any k 3 h hq w t
  clear hL hS hA t
  go_enter Tryd.func20, Tryd.ntmps20
  go_wp2_with fail
  refine Calls.mono (by exact HL.out) ?_
  rintro e w' ⟨rfl, hw⟩
  rw [hw]
  clear hw
  go_wp2_with fail
  refine Calls.mono (by exact HS.out) ?_
  rintro e w' ⟨rfl, hw⟩
  rw [hw]
  clear hw
  go_wp2_with fail
  refine Calls.mono (by exact H3.out) ?_
  rintro e w' ⟨rfl, hw⟩
  rw [hw]
  clear hw
  go_wp2
  go_ret
  exact ⟨by first | rfl | simp, rfl⟩
theorem width_at14_3 (k : Nat) (h : k < 99) (hf : formI (k : Nat) = 14) (hq : wordsT.getD k 0 / 4096 % 8 = 3) (w : World) (t : Tabs w) : Calls Tryd.prog 20 #[.int .i64 (k : Nat)] w fun e w' => e = .returned (.int .i64 8) ∧ w' = w := by
  have hL := loads_any (k : Nat) w t
  have hS := stores_any (k : Nat) w t
  have hA := atomics_any (k : Nat) w t
  rw [hf] at hL hS hA
  have HL : Hid _ := hL
  have HS : Hid _ := hS
  have HA : Hid _ := hA
  have H3 : Hid _ := f3_any k 3 h hq w t
  clear hL hS hA t
  go_enter Tryd.func20, Tryd.ntmps20
  go_wp2_with fail
  refine Calls.mono (by exact HL.out) ?_
  rintro e w' ⟨rfl, hw⟩
  rw [hw]
  clear hw
  go_wp2_with fail
  refine Calls.mono (by exact HS.out) ?_
  rintro e w' ⟨rfl, hw⟩
  rw [hw]
  clear hw
  go_wp2_with fail
  refine Calls.mono (by exact HA.out) ?_
  rintro e w' ⟨rfl, hw⟩
  rw [hw]
  clear hw
  go_wp2_with fail
  refine Calls.mono (by exact H3.out) ?_
  rintro e w' ⟨rfl, hw⟩
  rw [hw]
  clear hw
  go_wp2
  go_ret
  exact ⟨by first | rfl | simp, rfl⟩
theorem width_at15_3 (k : Nat) (h : k < 99) (hf : formI (k : Nat) = 15) (hq : wordsT.getD k 0 / 4096 % 8 = 3) (w : World) (t : Tabs w) : Calls Tryd.prog 20 #[.int .i64 (k : Nat)] w fun e w' => e = .returned (.int .i64 8) ∧ w' = w := by
  have hL := loads_any (k : Nat) w t
  have hS := stores_any (k : Nat) w t
  have hA := atomics_any (k : Nat) w t
  rw [hf] at hL hS hA
  have HL : Hid _ := hL
  have HS : Hid _ := hS
  have HA : Hid _ := hA
  have H3 : Hid _ := f3_any k 3 h hq w t
  clear hL hS hA t
  go_enter Tryd.func20, Tryd.ntmps20
  go_wp2_with fail
  refine Calls.mono (by exact HL.out) ?_
  rintro e w' ⟨rfl, hw⟩
  rw [hw]
  clear hw
  go_wp2_with fail
  refine Calls.mono (by exact HS.out) ?_
  rintro e w' ⟨rfl, hw⟩
  rw [hw]
  clear hw
  go_wp2_with fail
  refine Calls.mono (by exact HA.out) ?_
  rintro e w' ⟨rfl, hw⟩
  rw [hw]
  clear hw
  go_wp2_with fail
  refine Calls.mono (by exact H3.out) ?_
  rintro e w' ⟨rfl, hw⟩
  rw [hw]
  clear hw
  go_wp2
  go_ret
  exact ⟨by first | rfl | simp, rfl⟩
theorem width_no (op : Int) (h4 : formI op ≠ 4) (h6 : formI op ≠ 6) (h14 : formI op ≠ 14) (h15 : formI op ≠ 15) (w : World) (t : Tabs w) : Calls Tryd.prog 20 #[.int .i64 op] w fun e w' => e = .returned (.int .i64 0) ∧ w' = w := by
  have HL : Hid _ := loads_any op w t
  have HS : Hid _ := stores_any op w t
  have HA : Hid _ := atomics_any op w t
  have b4 : (((formI op : Nat) : Int) == 4) = false := by simp; omega
  have b6 : (((formI op : Nat) : Int) == 6) = false := by simp; omega
  have b14 : (((formI op : Nat) : Int) == 14) = false := by simp; omega
  have b15 : (((formI op : Nat) : Int) == 15) = false := by simp; omega
  clear t h4 h6 h14 h15
  generalize ((formI op : Nat) : Int) = f at *
  go_enter Tryd.func20, Tryd.ntmps20
  go_wp2_with fail
  refine Calls.mono (by exact HL.out) ?_
  rintro e w' ⟨rfl, hw⟩
  rw [hw]
  clear hw
  go_wp2_with fail
  refine Calls.mono (by exact HS.out) ?_
  rintro e w' ⟨rfl, hw⟩
  rw [hw]
  clear hw
  go_wp2_with fail
  refine Calls.mono (by exact HA.out) ?_
  rintro e w' ⟨rfl, hw⟩
  rw [hw]
  clear hw
  go_wp2
  go_ret
  exact ⟨by first | rfl | simp, rfl⟩
theorem in3b (f a b c : Int) (n : Nat) (w : World) (hn : w.heap.size = n) (r : Bool) (hr : ([a, b, c] : List Int).contains f = r) :
    Calls Tryd.prog 34 #[.int .i64 f, .slice (some ⟨n, 0, none⟩) 3 3] (w.alloc (.cells #[.int .i64 a, .int .i64 b, .int .i64 c] 3)) fun e w' => e = .returned (.bool r) ∧ Below w.heap.size w w' := by
  subst hn hr
  refine (in_new f [a, b, c] 3 rfl (by decide) 3 w).mono ?_
  rintro e w' ⟨rfl, rfl⟩
  exact ⟨rfl, (Below.refl _ _).alloc (Nat.le_refl _) _⟩
set_option maxHeartbeats 400000 in
theorem dwidth_load0 (op : Int) (s : ByteArray) (cc f7 : Int) (w : World) (hO : ∀ w, Calls Tryd.prog 16 #[.int .i64 op] w fun e w' => e = .returned (.agg #[.string s, .int .i64 5, .int .i64 cc, .int .i64 0, .int .i64 f7]) ∧ Below w.heap.size w w') :
    Calls Tryd.prog 21 #[.int .i64 op] w fun e w' => e = .returned (.int .i64 1) ∧ Below w.heap.size w w' := by
  have HO : Hid _ := hO
  clear hO
  go_enter Tryd.func21, Tryd.ntmps21
  go_wp2_with fail
  refine (HO.out _).mono ?_
  rintro e w1 ⟨rfl, hb⟩
  have B1 : Hid (Below w.heap.size w w1) := hb
  have B2 : Hid (Below w.heap.size w (w1.alloc (.cells #[.string s, .int .i64 5, .int .i64 cc, .int .i64 0, .int .i64 f7] 39))) := B1.out.alloc B1.out.size _
  have X2 : Hid _ := heap_alloc_new w1 (.cells #[.string s, .int .i64 5, .int .i64 cc, .int .i64 0, .int .i64 f7] 39)
  clear hb
  go_wp2
  have I0 : Hid (Below w.heap.size w (w1.alloc (.cells #[.string s, .int .i64 5, .int .i64 cc, .int .i64 0, .int .i64 f7] 39)) ∧ (w1.alloc (.cells #[.string s, .int .i64 5, .int .i64 cc, .int .i64 0, .int .i64 f7] 39)).heap[w1.heap.size]? = some (.cells #[.string s, .int .i64 5, .int .i64 cc, .int .i64 0, .int .i64 f7] 39 (0, 0))) := ⟨B2.out, X2.out⟩
  go_loopw [4, 5] (fun v i wr => ∃ k : Nat, k ≤ 0 ∧ i = .int .i64 k ∧ v = .int .i64 ((2 ^ k : Nat) : Int) ∧ Below w.heap.size w wr ∧ wr.heap[w1.heap.size]? = some (.cells #[.string s, .int .i64 5, .int .i64 cc, .int .i64 0, .int .i64 f7] 39 (0, 0))) (fun _ i _ => 9 - (intOf i).toNat)
  case atStart => exact ⟨0, by omega, rfl, rfl, I0.out⟩
  case round =>
    obtain ⟨k, hk, rfl, rfl, hb, hx⟩ := hrel
    have I : Hid (_ ∧ _) := ⟨hb, hx⟩
    obtain ⟨y0, y1, y2, y3, y4⟩ := box5_facts hx
    clear hb hx I0
    have hp : 2 ^ k ≤ 8 := Nat.le_trans (Nat.pow_le_pow_right (by omega) (show k ≤ 3 by omega)) (by decide)
    have hs : 2 ^ (k + 1) = 2 ^ k * 2 := Nat.pow_succ 2 k
    have HS : Hid _ := hs
    clear hs
    by_cases hkm : k < 0
    · exact absurd hkm (Nat.not_lt_zero _)
    · obtain rfl : k = 0 := by omega
      go_wp2
      go_ret
      exact ⟨by first | rfl | simp, I.out.1⟩
set_option maxHeartbeats 400000 in
theorem dwidth_load1 (op : Int) (s : ByteArray) (cc f7 : Int) (w : World) (hO : ∀ w, Calls Tryd.prog 16 #[.int .i64 op] w fun e w' => e = .returned (.agg #[.string s, .int .i64 5, .int .i64 cc, .int .i64 1, .int .i64 f7]) ∧ Below w.heap.size w w') :
    Calls Tryd.prog 21 #[.int .i64 op] w fun e w' => e = .returned (.int .i64 2) ∧ Below w.heap.size w w' := by
  have HO : Hid _ := hO
  clear hO
  go_enter Tryd.func21, Tryd.ntmps21
  go_wp2_with fail
  refine (HO.out _).mono ?_
  rintro e w1 ⟨rfl, hb⟩
  have B1 : Hid (Below w.heap.size w w1) := hb
  have B2 : Hid (Below w.heap.size w (w1.alloc (.cells #[.string s, .int .i64 5, .int .i64 cc, .int .i64 1, .int .i64 f7] 39))) := B1.out.alloc B1.out.size _
  have X2 : Hid _ := heap_alloc_new w1 (.cells #[.string s, .int .i64 5, .int .i64 cc, .int .i64 1, .int .i64 f7] 39)
  clear hb
  go_wp2
  have I0 : Hid (Below w.heap.size w (w1.alloc (.cells #[.string s, .int .i64 5, .int .i64 cc, .int .i64 1, .int .i64 f7] 39)) ∧ (w1.alloc (.cells #[.string s, .int .i64 5, .int .i64 cc, .int .i64 1, .int .i64 f7] 39)).heap[w1.heap.size]? = some (.cells #[.string s, .int .i64 5, .int .i64 cc, .int .i64 1, .int .i64 f7] 39 (0, 0))) := ⟨B2.out, X2.out⟩
  go_loopw [4, 5] (fun v i wr => ∃ k : Nat, k ≤ 1 ∧ i = .int .i64 k ∧ v = .int .i64 ((2 ^ k : Nat) : Int) ∧ Below w.heap.size w wr ∧ wr.heap[w1.heap.size]? = some (.cells #[.string s, .int .i64 5, .int .i64 cc, .int .i64 1, .int .i64 f7] 39 (0, 0))) (fun _ i _ => 9 - (intOf i).toNat)
  case atStart => exact ⟨0, by omega, rfl, rfl, I0.out⟩
  case round =>
    obtain ⟨k, hk, rfl, rfl, hb, hx⟩ := hrel
    have I : Hid (_ ∧ _) := ⟨hb, hx⟩
    obtain ⟨y0, y1, y2, y3, y4⟩ := box5_facts hx
    clear hb hx I0
    have hp : 2 ^ k ≤ 8 := Nat.le_trans (Nat.pow_le_pow_right (by omega) (show k ≤ 3 by omega)) (by decide)
    have hs : 2 ^ (k + 1) = 2 ^ k * 2 := Nat.pow_succ 2 k
    have HS : Hid _ := hs
    clear hs
    by_cases hkm : k < 1
    · generalize hP : 2 ^ k = P at *
      have HP : Hid _ := hP
      clear hP
      have hpi : (P : Int) ≤ 8 := by omega
      have hki : (k : Int) < 1 := by omega
      go_wp2
      go_roundw
      case rel => exact ⟨k + 1, by omega, by go_num, by rw [HS.out]; go_num, I.out⟩
      case measure => simp [intOf]; omega
    · obtain rfl : k = 1 := by omega
      go_wp2
      go_ret
      exact ⟨by first | rfl | simp, I.out.1⟩
set_option maxHeartbeats 400000 in
theorem dwidth_load2 (op : Int) (s : ByteArray) (cc f7 : Int) (w : World) (hO : ∀ w, Calls Tryd.prog 16 #[.int .i64 op] w fun e w' => e = .returned (.agg #[.string s, .int .i64 5, .int .i64 cc, .int .i64 2, .int .i64 f7]) ∧ Below w.heap.size w w') :
    Calls Tryd.prog 21 #[.int .i64 op] w fun e w' => e = .returned (.int .i64 4) ∧ Below w.heap.size w w' := by
  have HO : Hid _ := hO
  clear hO
  go_enter Tryd.func21, Tryd.ntmps21
  go_wp2_with fail
  refine (HO.out _).mono ?_
  rintro e w1 ⟨rfl, hb⟩
  have B1 : Hid (Below w.heap.size w w1) := hb
  have B2 : Hid (Below w.heap.size w (w1.alloc (.cells #[.string s, .int .i64 5, .int .i64 cc, .int .i64 2, .int .i64 f7] 39))) := B1.out.alloc B1.out.size _
  have X2 : Hid _ := heap_alloc_new w1 (.cells #[.string s, .int .i64 5, .int .i64 cc, .int .i64 2, .int .i64 f7] 39)
  clear hb
  go_wp2
  have I0 : Hid (Below w.heap.size w (w1.alloc (.cells #[.string s, .int .i64 5, .int .i64 cc, .int .i64 2, .int .i64 f7] 39)) ∧ (w1.alloc (.cells #[.string s, .int .i64 5, .int .i64 cc, .int .i64 2, .int .i64 f7] 39)).heap[w1.heap.size]? = some (.cells #[.string s, .int .i64 5, .int .i64 cc, .int .i64 2, .int .i64 f7] 39 (0, 0))) := ⟨B2.out, X2.out⟩
  go_loopw [4, 5] (fun v i wr => ∃ k : Nat, k ≤ 2 ∧ i = .int .i64 k ∧ v = .int .i64 ((2 ^ k : Nat) : Int) ∧ Below w.heap.size w wr ∧ wr.heap[w1.heap.size]? = some (.cells #[.string s, .int .i64 5, .int .i64 cc, .int .i64 2, .int .i64 f7] 39 (0, 0))) (fun _ i _ => 9 - (intOf i).toNat)
  case atStart => exact ⟨0, by omega, rfl, rfl, I0.out⟩
  case round =>
    obtain ⟨k, hk, rfl, rfl, hb, hx⟩ := hrel
    have I : Hid (_ ∧ _) := ⟨hb, hx⟩
    obtain ⟨y0, y1, y2, y3, y4⟩ := box5_facts hx
    clear hb hx I0
    have hp : 2 ^ k ≤ 8 := Nat.le_trans (Nat.pow_le_pow_right (by omega) (show k ≤ 3 by omega)) (by decide)
    have hs : 2 ^ (k + 1) = 2 ^ k * 2 := Nat.pow_succ 2 k
    have HS : Hid _ := hs
    clear hs
    by_cases hkm : k < 2
    · generalize hP : 2 ^ k = P at *
      have HP : Hid _ := hP
      clear hP
      have hpi : (P : Int) ≤ 8 := by omega
      have hki : (k : Int) < 2 := by omega
      go_wp2
      go_roundw
      case rel => exact ⟨k + 1, by omega, by go_num, by rw [HS.out]; go_num, I.out⟩
      case measure => simp [intOf]; omega
    · obtain rfl : k = 2 := by omega
      go_wp2
      go_ret
      exact ⟨by first | rfl | simp, I.out.1⟩
set_option maxHeartbeats 400000 in
theorem dwidth_load3 (op : Int) (s : ByteArray) (cc f7 : Int) (w : World) (hO : ∀ w, Calls Tryd.prog 16 #[.int .i64 op] w fun e w' => e = .returned (.agg #[.string s, .int .i64 5, .int .i64 cc, .int .i64 3, .int .i64 f7]) ∧ Below w.heap.size w w') :
    Calls Tryd.prog 21 #[.int .i64 op] w fun e w' => e = .returned (.int .i64 8) ∧ Below w.heap.size w w' := by
  have HO : Hid _ := hO
  clear hO
  go_enter Tryd.func21, Tryd.ntmps21
  go_wp2_with fail
  refine (HO.out _).mono ?_
  rintro e w1 ⟨rfl, hb⟩
  have B1 : Hid (Below w.heap.size w w1) := hb
  have B2 : Hid (Below w.heap.size w (w1.alloc (.cells #[.string s, .int .i64 5, .int .i64 cc, .int .i64 3, .int .i64 f7] 39))) := B1.out.alloc B1.out.size _
  have X2 : Hid _ := heap_alloc_new w1 (.cells #[.string s, .int .i64 5, .int .i64 cc, .int .i64 3, .int .i64 f7] 39)
  clear hb
  go_wp2
  have I0 : Hid (Below w.heap.size w (w1.alloc (.cells #[.string s, .int .i64 5, .int .i64 cc, .int .i64 3, .int .i64 f7] 39)) ∧ (w1.alloc (.cells #[.string s, .int .i64 5, .int .i64 cc, .int .i64 3, .int .i64 f7] 39)).heap[w1.heap.size]? = some (.cells #[.string s, .int .i64 5, .int .i64 cc, .int .i64 3, .int .i64 f7] 39 (0, 0))) := ⟨B2.out, X2.out⟩
  go_loopw [4, 5] (fun v i wr => ∃ k : Nat, k ≤ 3 ∧ i = .int .i64 k ∧ v = .int .i64 ((2 ^ k : Nat) : Int) ∧ Below w.heap.size w wr ∧ wr.heap[w1.heap.size]? = some (.cells #[.string s, .int .i64 5, .int .i64 cc, .int .i64 3, .int .i64 f7] 39 (0, 0))) (fun _ i _ => 9 - (intOf i).toNat)
  case atStart => exact ⟨0, by omega, rfl, rfl, I0.out⟩
  case round =>
    obtain ⟨k, hk, rfl, rfl, hb, hx⟩ := hrel
    have I : Hid (_ ∧ _) := ⟨hb, hx⟩
    obtain ⟨y0, y1, y2, y3, y4⟩ := box5_facts hx
    clear hb hx I0
    have hp : 2 ^ k ≤ 8 := Nat.le_trans (Nat.pow_le_pow_right (by omega) (show k ≤ 3 by omega)) (by decide)
    have hs : 2 ^ (k + 1) = 2 ^ k * 2 := Nat.pow_succ 2 k
    have HS : Hid _ := hs
    clear hs
    by_cases hkm : k < 3
    · generalize hP : 2 ^ k = P at *
      have HP : Hid _ := hP
      clear hP
      have hpi : (P : Int) ≤ 8 := by omega
      have hki : (k : Int) < 3 := by omega
      go_wp2
      go_roundw
      case rel => exact ⟨k + 1, by omega, by go_num, by rw [HS.out]; go_num, I.out⟩
      case measure => simp [intOf]; omega
    · obtain rfl : k = 3 := by omega
      go_wp2
      go_ret
      exact ⟨by first | rfl | simp, I.out.1⟩
set_option maxHeartbeats 400000 in
theorem dwidth_load4 (op : Int) (s : ByteArray) (cc f7 : Int) (w : World) (hO : ∀ w, Calls Tryd.prog 16 #[.int .i64 op] w fun e w' => e = .returned (.agg #[.string s, .int .i64 5, .int .i64 cc, .int .i64 4, .int .i64 f7]) ∧ Below w.heap.size w w') :
    Calls Tryd.prog 21 #[.int .i64 op] w fun e w' => e = .returned (.int .i64 1) ∧ Below w.heap.size w w' := by
  have HO : Hid _ := hO
  clear hO
  go_enter Tryd.func21, Tryd.ntmps21
  go_wp2_with fail
  refine (HO.out _).mono ?_
  rintro e w1 ⟨rfl, hb⟩
  have B1 : Hid (Below w.heap.size w w1) := hb
  have B2 : Hid (Below w.heap.size w (w1.alloc (.cells #[.string s, .int .i64 5, .int .i64 cc, .int .i64 0, .int .i64 f7] 39))) := B1.out.alloc B1.out.size _
  have X2 : Hid _ := heap_alloc_new w1 (.cells #[.string s, .int .i64 5, .int .i64 cc, .int .i64 0, .int .i64 f7] 39)
  clear hb
  go_wp2
  have I0 : Hid (Below w.heap.size w (w1.alloc (.cells #[.string s, .int .i64 5, .int .i64 cc, .int .i64 0, .int .i64 f7] 39)) ∧ (w1.alloc (.cells #[.string s, .int .i64 5, .int .i64 cc, .int .i64 0, .int .i64 f7] 39)).heap[w1.heap.size]? = some (.cells #[.string s, .int .i64 5, .int .i64 cc, .int .i64 0, .int .i64 f7] 39 (0, 0))) := ⟨B2.out, X2.out⟩
  go_loopw [4, 5] (fun v i wr => ∃ k : Nat, k ≤ 0 ∧ i = .int .i64 k ∧ v = .int .i64 ((2 ^ k : Nat) : Int) ∧ Below w.heap.size w wr ∧ wr.heap[w1.heap.size]? = some (.cells #[.string s, .int .i64 5, .int .i64 cc, .int .i64 0, .int .i64 f7] 39 (0, 0))) (fun _ i _ => 9 - (intOf i).toNat)
  case atStart => exact ⟨0, by omega, rfl, rfl, I0.out⟩
  case round =>
    obtain ⟨k, hk, rfl, rfl, hb, hx⟩ := hrel
    have I : Hid (_ ∧ _) := ⟨hb, hx⟩
    obtain ⟨y0, y1, y2, y3, y4⟩ := box5_facts hx
    clear hb hx I0
    have hp : 2 ^ k ≤ 8 := Nat.le_trans (Nat.pow_le_pow_right (by omega) (show k ≤ 3 by omega)) (by decide)
    have hs : 2 ^ (k + 1) = 2 ^ k * 2 := Nat.pow_succ 2 k
    have HS : Hid _ := hs
    clear hs
    by_cases hkm : k < 0
    · exact absurd hkm (Nat.not_lt_zero _)
    · obtain rfl : k = 0 := by omega
      go_wp2
      go_ret
      exact ⟨by first | rfl | simp, I.out.1⟩
set_option maxHeartbeats 400000 in
theorem dwidth_load5 (op : Int) (s : ByteArray) (cc f7 : Int) (w : World) (hO : ∀ w, Calls Tryd.prog 16 #[.int .i64 op] w fun e w' => e = .returned (.agg #[.string s, .int .i64 5, .int .i64 cc, .int .i64 5, .int .i64 f7]) ∧ Below w.heap.size w w') :
    Calls Tryd.prog 21 #[.int .i64 op] w fun e w' => e = .returned (.int .i64 2) ∧ Below w.heap.size w w' := by
  have HO : Hid _ := hO
  clear hO
  go_enter Tryd.func21, Tryd.ntmps21
  go_wp2_with fail
  refine (HO.out _).mono ?_
  rintro e w1 ⟨rfl, hb⟩
  have B1 : Hid (Below w.heap.size w w1) := hb
  have B2 : Hid (Below w.heap.size w (w1.alloc (.cells #[.string s, .int .i64 5, .int .i64 cc, .int .i64 1, .int .i64 f7] 39))) := B1.out.alloc B1.out.size _
  have X2 : Hid _ := heap_alloc_new w1 (.cells #[.string s, .int .i64 5, .int .i64 cc, .int .i64 1, .int .i64 f7] 39)
  clear hb
  go_wp2
  have I0 : Hid (Below w.heap.size w (w1.alloc (.cells #[.string s, .int .i64 5, .int .i64 cc, .int .i64 1, .int .i64 f7] 39)) ∧ (w1.alloc (.cells #[.string s, .int .i64 5, .int .i64 cc, .int .i64 1, .int .i64 f7] 39)).heap[w1.heap.size]? = some (.cells #[.string s, .int .i64 5, .int .i64 cc, .int .i64 1, .int .i64 f7] 39 (0, 0))) := ⟨B2.out, X2.out⟩
  go_loopw [4, 5] (fun v i wr => ∃ k : Nat, k ≤ 1 ∧ i = .int .i64 k ∧ v = .int .i64 ((2 ^ k : Nat) : Int) ∧ Below w.heap.size w wr ∧ wr.heap[w1.heap.size]? = some (.cells #[.string s, .int .i64 5, .int .i64 cc, .int .i64 1, .int .i64 f7] 39 (0, 0))) (fun _ i _ => 9 - (intOf i).toNat)
  case atStart => exact ⟨0, by omega, rfl, rfl, I0.out⟩
  case round =>
    obtain ⟨k, hk, rfl, rfl, hb, hx⟩ := hrel
    have I : Hid (_ ∧ _) := ⟨hb, hx⟩
    obtain ⟨y0, y1, y2, y3, y4⟩ := box5_facts hx
    clear hb hx I0
    have hp : 2 ^ k ≤ 8 := Nat.le_trans (Nat.pow_le_pow_right (by omega) (show k ≤ 3 by omega)) (by decide)
    have hs : 2 ^ (k + 1) = 2 ^ k * 2 := Nat.pow_succ 2 k
    have HS : Hid _ := hs
    clear hs
    by_cases hkm : k < 1
    · generalize hP : 2 ^ k = P at *
      have HP : Hid _ := hP
      clear hP
      have hpi : (P : Int) ≤ 8 := by omega
      have hki : (k : Int) < 1 := by omega
      go_wp2
      go_roundw
      case rel => exact ⟨k + 1, by omega, by go_num, by rw [HS.out]; go_num, I.out⟩
      case measure => simp [intOf]; omega
    · obtain rfl : k = 1 := by omega
      go_wp2
      go_ret
      exact ⟨by first | rfl | simp, I.out.1⟩
set_option maxHeartbeats 400000 in
theorem dwidth_load6 (op : Int) (s : ByteArray) (cc f7 : Int) (w : World) (hO : ∀ w, Calls Tryd.prog 16 #[.int .i64 op] w fun e w' => e = .returned (.agg #[.string s, .int .i64 5, .int .i64 cc, .int .i64 6, .int .i64 f7]) ∧ Below w.heap.size w w') :
    Calls Tryd.prog 21 #[.int .i64 op] w fun e w' => e = .returned (.int .i64 4) ∧ Below w.heap.size w w' := by
  have HO : Hid _ := hO
  clear hO
  go_enter Tryd.func21, Tryd.ntmps21
  go_wp2_with fail
  refine (HO.out _).mono ?_
  rintro e w1 ⟨rfl, hb⟩
  have B1 : Hid (Below w.heap.size w w1) := hb
  have B2 : Hid (Below w.heap.size w (w1.alloc (.cells #[.string s, .int .i64 5, .int .i64 cc, .int .i64 2, .int .i64 f7] 39))) := B1.out.alloc B1.out.size _
  have X2 : Hid _ := heap_alloc_new w1 (.cells #[.string s, .int .i64 5, .int .i64 cc, .int .i64 2, .int .i64 f7] 39)
  clear hb
  go_wp2
  have I0 : Hid (Below w.heap.size w (w1.alloc (.cells #[.string s, .int .i64 5, .int .i64 cc, .int .i64 2, .int .i64 f7] 39)) ∧ (w1.alloc (.cells #[.string s, .int .i64 5, .int .i64 cc, .int .i64 2, .int .i64 f7] 39)).heap[w1.heap.size]? = some (.cells #[.string s, .int .i64 5, .int .i64 cc, .int .i64 2, .int .i64 f7] 39 (0, 0))) := ⟨B2.out, X2.out⟩
  go_loopw [4, 5] (fun v i wr => ∃ k : Nat, k ≤ 2 ∧ i = .int .i64 k ∧ v = .int .i64 ((2 ^ k : Nat) : Int) ∧ Below w.heap.size w wr ∧ wr.heap[w1.heap.size]? = some (.cells #[.string s, .int .i64 5, .int .i64 cc, .int .i64 2, .int .i64 f7] 39 (0, 0))) (fun _ i _ => 9 - (intOf i).toNat)
  case atStart => exact ⟨0, by omega, rfl, rfl, I0.out⟩
  case round =>
    obtain ⟨k, hk, rfl, rfl, hb, hx⟩ := hrel
    have I : Hid (_ ∧ _) := ⟨hb, hx⟩
    obtain ⟨y0, y1, y2, y3, y4⟩ := box5_facts hx
    clear hb hx I0
    have hp : 2 ^ k ≤ 8 := Nat.le_trans (Nat.pow_le_pow_right (by omega) (show k ≤ 3 by omega)) (by decide)
    have hs : 2 ^ (k + 1) = 2 ^ k * 2 := Nat.pow_succ 2 k
    have HS : Hid _ := hs
    clear hs
    by_cases hkm : k < 2
    · generalize hP : 2 ^ k = P at *
      have HP : Hid _ := hP
      clear hP
      have hpi : (P : Int) ≤ 8 := by omega
      have hki : (k : Int) < 2 := by omega
      go_wp2
      go_roundw
      case rel => exact ⟨k + 1, by omega, by go_num, by rw [HS.out]; go_num, I.out⟩
      case measure => simp [intOf]; omega
    · obtain rfl : k = 2 := by omega
      go_wp2
      go_ret
      exact ⟨by first | rfl | simp, I.out.1⟩
set_option maxHeartbeats 400000 in
theorem dwidth_load7 (op : Int) (s : ByteArray) (cc f7 : Int) (w : World) (hO : ∀ w, Calls Tryd.prog 16 #[.int .i64 op] w fun e w' => e = .returned (.agg #[.string s, .int .i64 5, .int .i64 cc, .int .i64 7, .int .i64 f7]) ∧ Below w.heap.size w w') :
    Calls Tryd.prog 21 #[.int .i64 op] w fun e w' => e = .returned (.int .i64 8) ∧ Below w.heap.size w w' := by
  have HO : Hid _ := hO
  clear hO
  go_enter Tryd.func21, Tryd.ntmps21
  go_wp2_with fail
  refine (HO.out _).mono ?_
  rintro e w1 ⟨rfl, hb⟩
  have B1 : Hid (Below w.heap.size w w1) := hb
  have B2 : Hid (Below w.heap.size w (w1.alloc (.cells #[.string s, .int .i64 5, .int .i64 cc, .int .i64 3, .int .i64 f7] 39))) := B1.out.alloc B1.out.size _
  have X2 : Hid _ := heap_alloc_new w1 (.cells #[.string s, .int .i64 5, .int .i64 cc, .int .i64 3, .int .i64 f7] 39)
  clear hb
  go_wp2
  have I0 : Hid (Below w.heap.size w (w1.alloc (.cells #[.string s, .int .i64 5, .int .i64 cc, .int .i64 3, .int .i64 f7] 39)) ∧ (w1.alloc (.cells #[.string s, .int .i64 5, .int .i64 cc, .int .i64 3, .int .i64 f7] 39)).heap[w1.heap.size]? = some (.cells #[.string s, .int .i64 5, .int .i64 cc, .int .i64 3, .int .i64 f7] 39 (0, 0))) := ⟨B2.out, X2.out⟩
  go_loopw [4, 5] (fun v i wr => ∃ k : Nat, k ≤ 3 ∧ i = .int .i64 k ∧ v = .int .i64 ((2 ^ k : Nat) : Int) ∧ Below w.heap.size w wr ∧ wr.heap[w1.heap.size]? = some (.cells #[.string s, .int .i64 5, .int .i64 cc, .int .i64 3, .int .i64 f7] 39 (0, 0))) (fun _ i _ => 9 - (intOf i).toNat)
  case atStart => exact ⟨0, by omega, rfl, rfl, I0.out⟩
  case round =>
    obtain ⟨k, hk, rfl, rfl, hb, hx⟩ := hrel
    have I : Hid (_ ∧ _) := ⟨hb, hx⟩
    obtain ⟨y0, y1, y2, y3, y4⟩ := box5_facts hx
    clear hb hx I0
    have hp : 2 ^ k ≤ 8 := Nat.le_trans (Nat.pow_le_pow_right (by omega) (show k ≤ 3 by omega)) (by decide)
    have hs : 2 ^ (k + 1) = 2 ^ k * 2 := Nat.pow_succ 2 k
    have HS : Hid _ := hs
    clear hs
    by_cases hkm : k < 3
    · generalize hP : 2 ^ k = P at *
      have HP : Hid _ := hP
      clear hP
      have hpi : (P : Int) ≤ 8 := by omega
      have hki : (k : Int) < 3 := by omega
      go_wp2
      go_roundw
      case rel => exact ⟨k + 1, by omega, by go_num, by rw [HS.out]; go_num, I.out⟩
      case measure => simp [intOf]; omega
    · obtain rfl : k = 3 := by omega
      go_wp2
      go_ret
      exact ⟨by first | rfl | simp, I.out.1⟩
set_option maxHeartbeats 400000 in
theorem dwidth_at6_0 (op : Int) (s : ByteArray) (cc f7 : Int) (w : World) (hO : ∀ w, Calls Tryd.prog 16 #[.int .i64 op] w fun e w' => e = .returned (.agg #[.string s, .int .i64 6, .int .i64 cc, .int .i64 0, .int .i64 f7]) ∧ Below w.heap.size w w') :
    Calls Tryd.prog 21 #[.int .i64 op] w fun e w' => e = .returned (.int .i64 1) ∧ Below w.heap.size w w' := by
  have HO : Hid _ := hO
  clear hO
  go_enter Tryd.func21, Tryd.ntmps21
  go_wp2_with fail
  refine (HO.out _).mono ?_
  rintro e w1 ⟨rfl, hb⟩
  have B1 : Hid (Below w.heap.size w w1) := hb
  have B2 : Hid (Below w.heap.size w (w1.alloc (.cells #[.string s, .int .i64 6, .int .i64 cc, .int .i64 0, .int .i64 f7] 39))) := B1.out.alloc B1.out.size _
  have X2 : Hid _ := heap_alloc_new w1 (.cells #[.string s, .int .i64 6, .int .i64 cc, .int .i64 0, .int .i64 f7] 39)
  clear hb
  go_wp2_with fail
  refine (in3b 6 6 14 15 _ _ (by simp) true (by decide)).mono ?_
  rintro e w2 ⟨rfl, hb⟩
  have I0 : Hid (Below w.heap.size w w2 ∧ w2.heap[w1.heap.size]? = some (.cells #[.string s, .int .i64 6, .int .i64 cc, .int .i64 0, .int .i64 f7] 39 (0, 0))) := ⟨B2.out.trans (hb.mono B2.out.size), below_box X2.out hb⟩
  clear hb
  go_wp2
  go_loopw [4, 5] (fun v i wr => ∃ k : Nat, k ≤ 0 ∧ i = .int .i64 k ∧ v = .int .i64 ((2 ^ k : Nat) : Int) ∧ Below w.heap.size w wr ∧ wr.heap[w1.heap.size]? = some (.cells #[.string s, .int .i64 6, .int .i64 cc, .int .i64 0, .int .i64 f7] 39 (0, 0))) (fun _ i _ => 9 - (intOf i).toNat)
  case atStart => exact ⟨0, by omega, rfl, rfl, I0.out⟩
  case round =>
    obtain ⟨k, hk, rfl, rfl, hb, hx⟩ := hrel
    have I : Hid (_ ∧ _) := ⟨hb, hx⟩
    obtain ⟨y0, y1, y2, y3, y4⟩ := box5_facts hx
    clear hb hx I0
    have hp : 2 ^ k ≤ 8 := Nat.le_trans (Nat.pow_le_pow_right (by omega) (show k ≤ 3 by omega)) (by decide)
    have hs : 2 ^ (k + 1) = 2 ^ k * 2 := Nat.pow_succ 2 k
    have HS : Hid _ := hs
    clear hs
    by_cases hkm : k < 0
    · exact absurd hkm (Nat.not_lt_zero _)
    · obtain rfl : k = 0 := by omega
      go_wp2
      go_ret
      exact ⟨by first | rfl | simp, I.out.1⟩
set_option maxHeartbeats 400000 in
theorem dwidth_at6_1 (op : Int) (s : ByteArray) (cc f7 : Int) (w : World) (hO : ∀ w, Calls Tryd.prog 16 #[.int .i64 op] w fun e w' => e = .returned (.agg #[.string s, .int .i64 6, .int .i64 cc, .int .i64 1, .int .i64 f7]) ∧ Below w.heap.size w w') :
    Calls Tryd.prog 21 #[.int .i64 op] w fun e w' => e = .returned (.int .i64 2) ∧ Below w.heap.size w w' := by
  have HO : Hid _ := hO
  clear hO
  go_enter Tryd.func21, Tryd.ntmps21
  go_wp2_with fail
  refine (HO.out _).mono ?_
  rintro e w1 ⟨rfl, hb⟩
  have B1 : Hid (Below w.heap.size w w1) := hb
  have B2 : Hid (Below w.heap.size w (w1.alloc (.cells #[.string s, .int .i64 6, .int .i64 cc, .int .i64 1, .int .i64 f7] 39))) := B1.out.alloc B1.out.size _
  have X2 : Hid _ := heap_alloc_new w1 (.cells #[.string s, .int .i64 6, .int .i64 cc, .int .i64 1, .int .i64 f7] 39)
  clear hb
  go_wp2_with fail
  refine (in3b 6 6 14 15 _ _ (by simp) true (by decide)).mono ?_
  rintro e w2 ⟨rfl, hb⟩
  have I0 : Hid (Below w.heap.size w w2 ∧ w2.heap[w1.heap.size]? = some (.cells #[.string s, .int .i64 6, .int .i64 cc, .int .i64 1, .int .i64 f7] 39 (0, 0))) := ⟨B2.out.trans (hb.mono B2.out.size), below_box X2.out hb⟩
  clear hb
  go_wp2
  go_loopw [4, 5] (fun v i wr => ∃ k : Nat, k ≤ 1 ∧ i = .int .i64 k ∧ v = .int .i64 ((2 ^ k : Nat) : Int) ∧ Below w.heap.size w wr ∧ wr.heap[w1.heap.size]? = some (.cells #[.string s, .int .i64 6, .int .i64 cc, .int .i64 1, .int .i64 f7] 39 (0, 0))) (fun _ i _ => 9 - (intOf i).toNat)
  case atStart => exact ⟨0, by omega, rfl, rfl, I0.out⟩
  case round =>
    obtain ⟨k, hk, rfl, rfl, hb, hx⟩ := hrel
    have I : Hid (_ ∧ _) := ⟨hb, hx⟩
    obtain ⟨y0, y1, y2, y3, y4⟩ := box5_facts hx
    clear hb hx I0
    have hp : 2 ^ k ≤ 8 := Nat.le_trans (Nat.pow_le_pow_right (by omega) (show k ≤ 3 by omega)) (by decide)
    have hs : 2 ^ (k + 1) = 2 ^ k * 2 := Nat.pow_succ 2 k
    have HS : Hid _ := hs
    clear hs
    by_cases hkm : k < 1
    · generalize hP : 2 ^ k = P at *
      have HP : Hid _ := hP
      clear hP
      have hpi : (P : Int) ≤ 8 := by omega
      have hki : (k : Int) < 1 := by omega
      go_wp2
      go_roundw
      case rel => exact ⟨k + 1, by omega, by go_num, by rw [HS.out]; go_num, I.out⟩
      case measure => simp [intOf]; omega
    · obtain rfl : k = 1 := by omega
      go_wp2
      go_ret
      exact ⟨by first | rfl | simp, I.out.1⟩
set_option maxHeartbeats 400000 in
theorem dwidth_at6_2 (op : Int) (s : ByteArray) (cc f7 : Int) (w : World) (hO : ∀ w, Calls Tryd.prog 16 #[.int .i64 op] w fun e w' => e = .returned (.agg #[.string s, .int .i64 6, .int .i64 cc, .int .i64 2, .int .i64 f7]) ∧ Below w.heap.size w w') :
    Calls Tryd.prog 21 #[.int .i64 op] w fun e w' => e = .returned (.int .i64 4) ∧ Below w.heap.size w w' := by
  have HO : Hid _ := hO
  clear hO
  go_enter Tryd.func21, Tryd.ntmps21
  go_wp2_with fail
  refine (HO.out _).mono ?_
  rintro e w1 ⟨rfl, hb⟩
  have B1 : Hid (Below w.heap.size w w1) := hb
  have B2 : Hid (Below w.heap.size w (w1.alloc (.cells #[.string s, .int .i64 6, .int .i64 cc, .int .i64 2, .int .i64 f7] 39))) := B1.out.alloc B1.out.size _
  have X2 : Hid _ := heap_alloc_new w1 (.cells #[.string s, .int .i64 6, .int .i64 cc, .int .i64 2, .int .i64 f7] 39)
  clear hb
  go_wp2_with fail
  refine (in3b 6 6 14 15 _ _ (by simp) true (by decide)).mono ?_
  rintro e w2 ⟨rfl, hb⟩
  have I0 : Hid (Below w.heap.size w w2 ∧ w2.heap[w1.heap.size]? = some (.cells #[.string s, .int .i64 6, .int .i64 cc, .int .i64 2, .int .i64 f7] 39 (0, 0))) := ⟨B2.out.trans (hb.mono B2.out.size), below_box X2.out hb⟩
  clear hb
  go_wp2
  go_loopw [4, 5] (fun v i wr => ∃ k : Nat, k ≤ 2 ∧ i = .int .i64 k ∧ v = .int .i64 ((2 ^ k : Nat) : Int) ∧ Below w.heap.size w wr ∧ wr.heap[w1.heap.size]? = some (.cells #[.string s, .int .i64 6, .int .i64 cc, .int .i64 2, .int .i64 f7] 39 (0, 0))) (fun _ i _ => 9 - (intOf i).toNat)
  case atStart => exact ⟨0, by omega, rfl, rfl, I0.out⟩
  case round =>
    obtain ⟨k, hk, rfl, rfl, hb, hx⟩ := hrel
    have I : Hid (_ ∧ _) := ⟨hb, hx⟩
    obtain ⟨y0, y1, y2, y3, y4⟩ := box5_facts hx
    clear hb hx I0
    have hp : 2 ^ k ≤ 8 := Nat.le_trans (Nat.pow_le_pow_right (by omega) (show k ≤ 3 by omega)) (by decide)
    have hs : 2 ^ (k + 1) = 2 ^ k * 2 := Nat.pow_succ 2 k
    have HS : Hid _ := hs
    clear hs
    by_cases hkm : k < 2
    · generalize hP : 2 ^ k = P at *
      have HP : Hid _ := hP
      clear hP
      have hpi : (P : Int) ≤ 8 := by omega
      have hki : (k : Int) < 2 := by omega
      go_wp2
      go_roundw
      case rel => exact ⟨k + 1, by omega, by go_num, by rw [HS.out]; go_num, I.out⟩
      case measure => simp [intOf]; omega
    · obtain rfl : k = 2 := by omega
      go_wp2
      go_ret
      exact ⟨by first | rfl | simp, I.out.1⟩
set_option maxHeartbeats 400000 in
theorem dwidth_at6_3 (op : Int) (s : ByteArray) (cc f7 : Int) (w : World) (hO : ∀ w, Calls Tryd.prog 16 #[.int .i64 op] w fun e w' => e = .returned (.agg #[.string s, .int .i64 6, .int .i64 cc, .int .i64 3, .int .i64 f7]) ∧ Below w.heap.size w w') :
    Calls Tryd.prog 21 #[.int .i64 op] w fun e w' => e = .returned (.int .i64 8) ∧ Below w.heap.size w w' := by
  have HO : Hid _ := hO
  clear hO
  go_enter Tryd.func21, Tryd.ntmps21
  go_wp2_with fail
  refine (HO.out _).mono ?_
  rintro e w1 ⟨rfl, hb⟩
  have B1 : Hid (Below w.heap.size w w1) := hb
  have B2 : Hid (Below w.heap.size w (w1.alloc (.cells #[.string s, .int .i64 6, .int .i64 cc, .int .i64 3, .int .i64 f7] 39))) := B1.out.alloc B1.out.size _
  have X2 : Hid _ := heap_alloc_new w1 (.cells #[.string s, .int .i64 6, .int .i64 cc, .int .i64 3, .int .i64 f7] 39)
  clear hb
  go_wp2_with fail
  refine (in3b 6 6 14 15 _ _ (by simp) true (by decide)).mono ?_
  rintro e w2 ⟨rfl, hb⟩
  have I0 : Hid (Below w.heap.size w w2 ∧ w2.heap[w1.heap.size]? = some (.cells #[.string s, .int .i64 6, .int .i64 cc, .int .i64 3, .int .i64 f7] 39 (0, 0))) := ⟨B2.out.trans (hb.mono B2.out.size), below_box X2.out hb⟩
  clear hb
  go_wp2
  go_loopw [4, 5] (fun v i wr => ∃ k : Nat, k ≤ 3 ∧ i = .int .i64 k ∧ v = .int .i64 ((2 ^ k : Nat) : Int) ∧ Below w.heap.size w wr ∧ wr.heap[w1.heap.size]? = some (.cells #[.string s, .int .i64 6, .int .i64 cc, .int .i64 3, .int .i64 f7] 39 (0, 0))) (fun _ i _ => 9 - (intOf i).toNat)
  case atStart => exact ⟨0, by omega, rfl, rfl, I0.out⟩
  case round =>
    obtain ⟨k, hk, rfl, rfl, hb, hx⟩ := hrel
    have I : Hid (_ ∧ _) := ⟨hb, hx⟩
    obtain ⟨y0, y1, y2, y3, y4⟩ := box5_facts hx
    clear hb hx I0
    have hp : 2 ^ k ≤ 8 := Nat.le_trans (Nat.pow_le_pow_right (by omega) (show k ≤ 3 by omega)) (by decide)
    have hs : 2 ^ (k + 1) = 2 ^ k * 2 := Nat.pow_succ 2 k
    have HS : Hid _ := hs
    clear hs
    by_cases hkm : k < 3
    · generalize hP : 2 ^ k = P at *
      have HP : Hid _ := hP
      clear hP
      have hpi : (P : Int) ≤ 8 := by omega
      have hki : (k : Int) < 3 := by omega
      go_wp2
      go_roundw
      case rel => exact ⟨k + 1, by omega, by go_num, by rw [HS.out]; go_num, I.out⟩
      case measure => simp [intOf]; omega
    · obtain rfl : k = 3 := by omega
      go_wp2
      go_ret
      exact ⟨by first | rfl | simp, I.out.1⟩
set_option maxHeartbeats 400000 in
theorem dwidth_at14_0 (op : Int) (s : ByteArray) (cc f7 : Int) (w : World) (hO : ∀ w, Calls Tryd.prog 16 #[.int .i64 op] w fun e w' => e = .returned (.agg #[.string s, .int .i64 14, .int .i64 cc, .int .i64 0, .int .i64 f7]) ∧ Below w.heap.size w w') :
    Calls Tryd.prog 21 #[.int .i64 op] w fun e w' => e = .returned (.int .i64 1) ∧ Below w.heap.size w w' := by
  have HO : Hid _ := hO
  clear hO
  go_enter Tryd.func21, Tryd.ntmps21
  go_wp2_with fail
  refine (HO.out _).mono ?_
  rintro e w1 ⟨rfl, hb⟩
  have B1 : Hid (Below w.heap.size w w1) := hb
  have B2 : Hid (Below w.heap.size w (w1.alloc (.cells #[.string s, .int .i64 14, .int .i64 cc, .int .i64 0, .int .i64 f7] 39))) := B1.out.alloc B1.out.size _
  have X2 : Hid _ := heap_alloc_new w1 (.cells #[.string s, .int .i64 14, .int .i64 cc, .int .i64 0, .int .i64 f7] 39)
  clear hb
  go_wp2_with fail
  refine (in3b 14 6 14 15 _ _ (by simp) true (by decide)).mono ?_
  rintro e w2 ⟨rfl, hb⟩
  have I0 : Hid (Below w.heap.size w w2 ∧ w2.heap[w1.heap.size]? = some (.cells #[.string s, .int .i64 14, .int .i64 cc, .int .i64 0, .int .i64 f7] 39 (0, 0))) := ⟨B2.out.trans (hb.mono B2.out.size), below_box X2.out hb⟩
  clear hb
  go_wp2
  go_loopw [4, 5] (fun v i wr => ∃ k : Nat, k ≤ 0 ∧ i = .int .i64 k ∧ v = .int .i64 ((2 ^ k : Nat) : Int) ∧ Below w.heap.size w wr ∧ wr.heap[w1.heap.size]? = some (.cells #[.string s, .int .i64 14, .int .i64 cc, .int .i64 0, .int .i64 f7] 39 (0, 0))) (fun _ i _ => 9 - (intOf i).toNat)
  case atStart => exact ⟨0, by omega, rfl, rfl, I0.out⟩
  case round =>
    obtain ⟨k, hk, rfl, rfl, hb, hx⟩ := hrel
    have I : Hid (_ ∧ _) := ⟨hb, hx⟩
    obtain ⟨y0, y1, y2, y3, y4⟩ := box5_facts hx
    clear hb hx I0
    have hp : 2 ^ k ≤ 8 := Nat.le_trans (Nat.pow_le_pow_right (by omega) (show k ≤ 3 by omega)) (by decide)
    have hs : 2 ^ (k + 1) = 2 ^ k * 2 := Nat.pow_succ 2 k
    have HS : Hid _ := hs
    clear hs
    by_cases hkm : k < 0
    · exact absurd hkm (Nat.not_lt_zero _)
    · obtain rfl : k = 0 := by omega
      go_wp2
      go_ret
      exact ⟨by first | rfl | simp, I.out.1⟩
set_option maxHeartbeats 400000 in
theorem dwidth_at14_1 (op : Int) (s : ByteArray) (cc f7 : Int) (w : World) (hO : ∀ w, Calls Tryd.prog 16 #[.int .i64 op] w fun e w' => e = .returned (.agg #[.string s, .int .i64 14, .int .i64 cc, .int .i64 1, .int .i64 f7]) ∧ Below w.heap.size w w') :
    Calls Tryd.prog 21 #[.int .i64 op] w fun e w' => e = .returned (.int .i64 2) ∧ Below w.heap.size w w' := by
  have HO : Hid _ := hO
  clear hO
  go_enter Tryd.func21, Tryd.ntmps21
  go_wp2_with fail
  refine (HO.out _).mono ?_
  rintro e w1 ⟨rfl, hb⟩
  have B1 : Hid (Below w.heap.size w w1) := hb
  have B2 : Hid (Below w.heap.size w (w1.alloc (.cells #[.string s, .int .i64 14, .int .i64 cc, .int .i64 1, .int .i64 f7] 39))) := B1.out.alloc B1.out.size _
  have X2 : Hid _ := heap_alloc_new w1 (.cells #[.string s, .int .i64 14, .int .i64 cc, .int .i64 1, .int .i64 f7] 39)
  clear hb
  go_wp2_with fail
  refine (in3b 14 6 14 15 _ _ (by simp) true (by decide)).mono ?_
  rintro e w2 ⟨rfl, hb⟩
  have I0 : Hid (Below w.heap.size w w2 ∧ w2.heap[w1.heap.size]? = some (.cells #[.string s, .int .i64 14, .int .i64 cc, .int .i64 1, .int .i64 f7] 39 (0, 0))) := ⟨B2.out.trans (hb.mono B2.out.size), below_box X2.out hb⟩
  clear hb
  go_wp2
  go_loopw [4, 5] (fun v i wr => ∃ k : Nat, k ≤ 1 ∧ i = .int .i64 k ∧ v = .int .i64 ((2 ^ k : Nat) : Int) ∧ Below w.heap.size w wr ∧ wr.heap[w1.heap.size]? = some (.cells #[.string s, .int .i64 14, .int .i64 cc, .int .i64 1, .int .i64 f7] 39 (0, 0))) (fun _ i _ => 9 - (intOf i).toNat)
  case atStart => exact ⟨0, by omega, rfl, rfl, I0.out⟩
  case round =>
    obtain ⟨k, hk, rfl, rfl, hb, hx⟩ := hrel
    have I : Hid (_ ∧ _) := ⟨hb, hx⟩
    obtain ⟨y0, y1, y2, y3, y4⟩ := box5_facts hx
    clear hb hx I0
    have hp : 2 ^ k ≤ 8 := Nat.le_trans (Nat.pow_le_pow_right (by omega) (show k ≤ 3 by omega)) (by decide)
    have hs : 2 ^ (k + 1) = 2 ^ k * 2 := Nat.pow_succ 2 k
    have HS : Hid _ := hs
    clear hs
    by_cases hkm : k < 1
    · generalize hP : 2 ^ k = P at *
      have HP : Hid _ := hP
      clear hP
      have hpi : (P : Int) ≤ 8 := by omega
      have hki : (k : Int) < 1 := by omega
      go_wp2
      go_roundw
      case rel => exact ⟨k + 1, by omega, by go_num, by rw [HS.out]; go_num, I.out⟩
      case measure => simp [intOf]; omega
    · obtain rfl : k = 1 := by omega
      go_wp2
      go_ret
      exact ⟨by first | rfl | simp, I.out.1⟩
set_option maxHeartbeats 400000 in
theorem dwidth_at14_2 (op : Int) (s : ByteArray) (cc f7 : Int) (w : World) (hO : ∀ w, Calls Tryd.prog 16 #[.int .i64 op] w fun e w' => e = .returned (.agg #[.string s, .int .i64 14, .int .i64 cc, .int .i64 2, .int .i64 f7]) ∧ Below w.heap.size w w') :
    Calls Tryd.prog 21 #[.int .i64 op] w fun e w' => e = .returned (.int .i64 4) ∧ Below w.heap.size w w' := by
  have HO : Hid _ := hO
  clear hO
  go_enter Tryd.func21, Tryd.ntmps21
  go_wp2_with fail
  refine (HO.out _).mono ?_
  rintro e w1 ⟨rfl, hb⟩
  have B1 : Hid (Below w.heap.size w w1) := hb
  have B2 : Hid (Below w.heap.size w (w1.alloc (.cells #[.string s, .int .i64 14, .int .i64 cc, .int .i64 2, .int .i64 f7] 39))) := B1.out.alloc B1.out.size _
  have X2 : Hid _ := heap_alloc_new w1 (.cells #[.string s, .int .i64 14, .int .i64 cc, .int .i64 2, .int .i64 f7] 39)
  clear hb
  go_wp2_with fail
  refine (in3b 14 6 14 15 _ _ (by simp) true (by decide)).mono ?_
  rintro e w2 ⟨rfl, hb⟩
  have I0 : Hid (Below w.heap.size w w2 ∧ w2.heap[w1.heap.size]? = some (.cells #[.string s, .int .i64 14, .int .i64 cc, .int .i64 2, .int .i64 f7] 39 (0, 0))) := ⟨B2.out.trans (hb.mono B2.out.size), below_box X2.out hb⟩
  clear hb
  go_wp2
  go_loopw [4, 5] (fun v i wr => ∃ k : Nat, k ≤ 2 ∧ i = .int .i64 k ∧ v = .int .i64 ((2 ^ k : Nat) : Int) ∧ Below w.heap.size w wr ∧ wr.heap[w1.heap.size]? = some (.cells #[.string s, .int .i64 14, .int .i64 cc, .int .i64 2, .int .i64 f7] 39 (0, 0))) (fun _ i _ => 9 - (intOf i).toNat)
  case atStart => exact ⟨0, by omega, rfl, rfl, I0.out⟩
  case round =>
    obtain ⟨k, hk, rfl, rfl, hb, hx⟩ := hrel
    have I : Hid (_ ∧ _) := ⟨hb, hx⟩
    obtain ⟨y0, y1, y2, y3, y4⟩ := box5_facts hx
    clear hb hx I0
    have hp : 2 ^ k ≤ 8 := Nat.le_trans (Nat.pow_le_pow_right (by omega) (show k ≤ 3 by omega)) (by decide)
    have hs : 2 ^ (k + 1) = 2 ^ k * 2 := Nat.pow_succ 2 k
    have HS : Hid _ := hs
    clear hs
    by_cases hkm : k < 2
    · generalize hP : 2 ^ k = P at *
      have HP : Hid _ := hP
      clear hP
      have hpi : (P : Int) ≤ 8 := by omega
      have hki : (k : Int) < 2 := by omega
      go_wp2
      go_roundw
      case rel => exact ⟨k + 1, by omega, by go_num, by rw [HS.out]; go_num, I.out⟩
      case measure => simp [intOf]; omega
    · obtain rfl : k = 2 := by omega
      go_wp2
      go_ret
      exact ⟨by first | rfl | simp, I.out.1⟩
set_option maxHeartbeats 400000 in
theorem dwidth_at14_3 (op : Int) (s : ByteArray) (cc f7 : Int) (w : World) (hO : ∀ w, Calls Tryd.prog 16 #[.int .i64 op] w fun e w' => e = .returned (.agg #[.string s, .int .i64 14, .int .i64 cc, .int .i64 3, .int .i64 f7]) ∧ Below w.heap.size w w') :
    Calls Tryd.prog 21 #[.int .i64 op] w fun e w' => e = .returned (.int .i64 8) ∧ Below w.heap.size w w' := by
  have HO : Hid _ := hO
  clear hO
  go_enter Tryd.func21, Tryd.ntmps21
  go_wp2_with fail
  refine (HO.out _).mono ?_
  rintro e w1 ⟨rfl, hb⟩
  have B1 : Hid (Below w.heap.size w w1) := hb
  have B2 : Hid (Below w.heap.size w (w1.alloc (.cells #[.string s, .int .i64 14, .int .i64 cc, .int .i64 3, .int .i64 f7] 39))) := B1.out.alloc B1.out.size _
  have X2 : Hid _ := heap_alloc_new w1 (.cells #[.string s, .int .i64 14, .int .i64 cc, .int .i64 3, .int .i64 f7] 39)
  clear hb
  go_wp2_with fail
  refine (in3b 14 6 14 15 _ _ (by simp) true (by decide)).mono ?_
  rintro e w2 ⟨rfl, hb⟩
  have I0 : Hid (Below w.heap.size w w2 ∧ w2.heap[w1.heap.size]? = some (.cells #[.string s, .int .i64 14, .int .i64 cc, .int .i64 3, .int .i64 f7] 39 (0, 0))) := ⟨B2.out.trans (hb.mono B2.out.size), below_box X2.out hb⟩
  clear hb
  go_wp2
  go_loopw [4, 5] (fun v i wr => ∃ k : Nat, k ≤ 3 ∧ i = .int .i64 k ∧ v = .int .i64 ((2 ^ k : Nat) : Int) ∧ Below w.heap.size w wr ∧ wr.heap[w1.heap.size]? = some (.cells #[.string s, .int .i64 14, .int .i64 cc, .int .i64 3, .int .i64 f7] 39 (0, 0))) (fun _ i _ => 9 - (intOf i).toNat)
  case atStart => exact ⟨0, by omega, rfl, rfl, I0.out⟩
  case round =>
    obtain ⟨k, hk, rfl, rfl, hb, hx⟩ := hrel
    have I : Hid (_ ∧ _) := ⟨hb, hx⟩
    obtain ⟨y0, y1, y2, y3, y4⟩ := box5_facts hx
    clear hb hx I0
    have hp : 2 ^ k ≤ 8 := Nat.le_trans (Nat.pow_le_pow_right (by omega) (show k ≤ 3 by omega)) (by decide)
    have hs : 2 ^ (k + 1) = 2 ^ k * 2 := Nat.pow_succ 2 k
    have HS : Hid _ := hs
    clear hs
    by_cases hkm : k < 3
    · generalize hP : 2 ^ k = P at *
      have HP : Hid _ := hP
      clear hP
      have hpi : (P : Int) ≤ 8 := by omega
      have hki : (k : Int) < 3 := by omega
      go_wp2
      go_roundw
      case rel => exact ⟨k + 1, by omega, by go_num, by rw [HS.out]; go_num, I.out⟩
      case measure => simp [intOf]; omega
    · obtain rfl : k = 3 := by omega
      go_wp2
      go_ret
      exact ⟨by first | rfl | simp, I.out.1⟩
set_option maxHeartbeats 400000 in
theorem dwidth_at15_0 (op : Int) (s : ByteArray) (cc f7 : Int) (w : World) (hO : ∀ w, Calls Tryd.prog 16 #[.int .i64 op] w fun e w' => e = .returned (.agg #[.string s, .int .i64 15, .int .i64 cc, .int .i64 0, .int .i64 f7]) ∧ Below w.heap.size w w') :
    Calls Tryd.prog 21 #[.int .i64 op] w fun e w' => e = .returned (.int .i64 1) ∧ Below w.heap.size w w' := by
  have HO : Hid _ := hO
  clear hO
  go_enter Tryd.func21, Tryd.ntmps21
  go_wp2_with fail
  refine (HO.out _).mono ?_
  rintro e w1 ⟨rfl, hb⟩
  have B1 : Hid (Below w.heap.size w w1) := hb
  have B2 : Hid (Below w.heap.size w (w1.alloc (.cells #[.string s, .int .i64 15, .int .i64 cc, .int .i64 0, .int .i64 f7] 39))) := B1.out.alloc B1.out.size _
  have X2 : Hid _ := heap_alloc_new w1 (.cells #[.string s, .int .i64 15, .int .i64 cc, .int .i64 0, .int .i64 f7] 39)
  clear hb
  go_wp2_with fail
  refine (in3b 15 6 14 15 _ _ (by simp) true (by decide)).mono ?_
  rintro e w2 ⟨rfl, hb⟩
  have I0 : Hid (Below w.heap.size w w2 ∧ w2.heap[w1.heap.size]? = some (.cells #[.string s, .int .i64 15, .int .i64 cc, .int .i64 0, .int .i64 f7] 39 (0, 0))) := ⟨B2.out.trans (hb.mono B2.out.size), below_box X2.out hb⟩
  clear hb
  go_wp2
  go_loopw [4, 5] (fun v i wr => ∃ k : Nat, k ≤ 0 ∧ i = .int .i64 k ∧ v = .int .i64 ((2 ^ k : Nat) : Int) ∧ Below w.heap.size w wr ∧ wr.heap[w1.heap.size]? = some (.cells #[.string s, .int .i64 15, .int .i64 cc, .int .i64 0, .int .i64 f7] 39 (0, 0))) (fun _ i _ => 9 - (intOf i).toNat)
  case atStart => exact ⟨0, by omega, rfl, rfl, I0.out⟩
  case round =>
    obtain ⟨k, hk, rfl, rfl, hb, hx⟩ := hrel
    have I : Hid (_ ∧ _) := ⟨hb, hx⟩
    obtain ⟨y0, y1, y2, y3, y4⟩ := box5_facts hx
    clear hb hx I0
    have hp : 2 ^ k ≤ 8 := Nat.le_trans (Nat.pow_le_pow_right (by omega) (show k ≤ 3 by omega)) (by decide)
    have hs : 2 ^ (k + 1) = 2 ^ k * 2 := Nat.pow_succ 2 k
    have HS : Hid _ := hs
    clear hs
    by_cases hkm : k < 0
    · exact absurd hkm (Nat.not_lt_zero _)
    · obtain rfl : k = 0 := by omega
      go_wp2
      go_ret
      exact ⟨by first | rfl | simp, I.out.1⟩
set_option maxHeartbeats 400000 in
theorem dwidth_at15_1 (op : Int) (s : ByteArray) (cc f7 : Int) (w : World) (hO : ∀ w, Calls Tryd.prog 16 #[.int .i64 op] w fun e w' => e = .returned (.agg #[.string s, .int .i64 15, .int .i64 cc, .int .i64 1, .int .i64 f7]) ∧ Below w.heap.size w w') :
    Calls Tryd.prog 21 #[.int .i64 op] w fun e w' => e = .returned (.int .i64 2) ∧ Below w.heap.size w w' := by
  have HO : Hid _ := hO
  clear hO
  go_enter Tryd.func21, Tryd.ntmps21
  go_wp2_with fail
  refine (HO.out _).mono ?_
  rintro e w1 ⟨rfl, hb⟩
  have B1 : Hid (Below w.heap.size w w1) := hb
  have B2 : Hid (Below w.heap.size w (w1.alloc (.cells #[.string s, .int .i64 15, .int .i64 cc, .int .i64 1, .int .i64 f7] 39))) := B1.out.alloc B1.out.size _
  have X2 : Hid _ := heap_alloc_new w1 (.cells #[.string s, .int .i64 15, .int .i64 cc, .int .i64 1, .int .i64 f7] 39)
  clear hb
  go_wp2_with fail
  refine (in3b 15 6 14 15 _ _ (by simp) true (by decide)).mono ?_
  rintro e w2 ⟨rfl, hb⟩
  have I0 : Hid (Below w.heap.size w w2 ∧ w2.heap[w1.heap.size]? = some (.cells #[.string s, .int .i64 15, .int .i64 cc, .int .i64 1, .int .i64 f7] 39 (0, 0))) := ⟨B2.out.trans (hb.mono B2.out.size), below_box X2.out hb⟩
  clear hb
  go_wp2
  go_loopw [4, 5] (fun v i wr => ∃ k : Nat, k ≤ 1 ∧ i = .int .i64 k ∧ v = .int .i64 ((2 ^ k : Nat) : Int) ∧ Below w.heap.size w wr ∧ wr.heap[w1.heap.size]? = some (.cells #[.string s, .int .i64 15, .int .i64 cc, .int .i64 1, .int .i64 f7] 39 (0, 0))) (fun _ i _ => 9 - (intOf i).toNat)
  case atStart => exact ⟨0, by omega, rfl, rfl, I0.out⟩
  case round =>
    obtain ⟨k, hk, rfl, rfl, hb, hx⟩ := hrel
    have I : Hid (_ ∧ _) := ⟨hb, hx⟩
    obtain ⟨y0, y1, y2, y3, y4⟩ := box5_facts hx
    clear hb hx I0
    have hp : 2 ^ k ≤ 8 := Nat.le_trans (Nat.pow_le_pow_right (by omega) (show k ≤ 3 by omega)) (by decide)
    have hs : 2 ^ (k + 1) = 2 ^ k * 2 := Nat.pow_succ 2 k
    have HS : Hid _ := hs
    clear hs
    by_cases hkm : k < 1
    · generalize hP : 2 ^ k = P at *
      have HP : Hid _ := hP
      clear hP
      have hpi : (P : Int) ≤ 8 := by omega
      have hki : (k : Int) < 1 := by omega
      go_wp2
      go_roundw
      case rel => exact ⟨k + 1, by omega, by go_num, by rw [HS.out]; go_num, I.out⟩
      case measure => simp [intOf]; omega
    · obtain rfl : k = 1 := by omega
      go_wp2
      go_ret
      exact ⟨by first | rfl | simp, I.out.1⟩
set_option maxHeartbeats 400000 in
theorem dwidth_at15_2 (op : Int) (s : ByteArray) (cc f7 : Int) (w : World) (hO : ∀ w, Calls Tryd.prog 16 #[.int .i64 op] w fun e w' => e = .returned (.agg #[.string s, .int .i64 15, .int .i64 cc, .int .i64 2, .int .i64 f7]) ∧ Below w.heap.size w w') :
    Calls Tryd.prog 21 #[.int .i64 op] w fun e w' => e = .returned (.int .i64 4) ∧ Below w.heap.size w w' := by
  have HO : Hid _ := hO
  clear hO
  go_enter Tryd.func21, Tryd.ntmps21
  go_wp2_with fail
  refine (HO.out _).mono ?_
  rintro e w1 ⟨rfl, hb⟩
  have B1 : Hid (Below w.heap.size w w1) := hb
  have B2 : Hid (Below w.heap.size w (w1.alloc (.cells #[.string s, .int .i64 15, .int .i64 cc, .int .i64 2, .int .i64 f7] 39))) := B1.out.alloc B1.out.size _
  have X2 : Hid _ := heap_alloc_new w1 (.cells #[.string s, .int .i64 15, .int .i64 cc, .int .i64 2, .int .i64 f7] 39)
  clear hb
  go_wp2_with fail
  refine (in3b 15 6 14 15 _ _ (by simp) true (by decide)).mono ?_
  rintro e w2 ⟨rfl, hb⟩
  have I0 : Hid (Below w.heap.size w w2 ∧ w2.heap[w1.heap.size]? = some (.cells #[.string s, .int .i64 15, .int .i64 cc, .int .i64 2, .int .i64 f7] 39 (0, 0))) := ⟨B2.out.trans (hb.mono B2.out.size), below_box X2.out hb⟩
  clear hb
  go_wp2
  go_loopw [4, 5] (fun v i wr => ∃ k : Nat, k ≤ 2 ∧ i = .int .i64 k ∧ v = .int .i64 ((2 ^ k : Nat) : Int) ∧ Below w.heap.size w wr ∧ wr.heap[w1.heap.size]? = some (.cells #[.string s, .int .i64 15, .int .i64 cc, .int .i64 2, .int .i64 f7] 39 (0, 0))) (fun _ i _ => 9 - (intOf i).toNat)
  case atStart => exact ⟨0, by omega, rfl, rfl, I0.out⟩
  case round =>
    obtain ⟨k, hk, rfl, rfl, hb, hx⟩ := hrel
    have I : Hid (_ ∧ _) := ⟨hb, hx⟩
    obtain ⟨y0, y1, y2, y3, y4⟩ := box5_facts hx
    clear hb hx I0
    have hp : 2 ^ k ≤ 8 := Nat.le_trans (Nat.pow_le_pow_right (by omega) (show k ≤ 3 by omega)) (by decide)
    have hs : 2 ^ (k + 1) = 2 ^ k * 2 := Nat.pow_succ 2 k
    have HS : Hid _ := hs
    clear hs
    by_cases hkm : k < 2
    · generalize hP : 2 ^ k = P at *
      have HP : Hid _ := hP
      clear hP
      have hpi : (P : Int) ≤ 8 := by omega
      have hki : (k : Int) < 2 := by omega
      go_wp2
      go_roundw
      case rel => exact ⟨k + 1, by omega, by go_num, by rw [HS.out]; go_num, I.out⟩
      case measure => simp [intOf]; omega
    · obtain rfl : k = 2 := by omega
      go_wp2
      go_ret
      exact ⟨by first | rfl | simp, I.out.1⟩
set_option maxHeartbeats 400000 in
theorem dwidth_at15_3 (op : Int) (s : ByteArray) (cc f7 : Int) (w : World) (hO : ∀ w, Calls Tryd.prog 16 #[.int .i64 op] w fun e w' => e = .returned (.agg #[.string s, .int .i64 15, .int .i64 cc, .int .i64 3, .int .i64 f7]) ∧ Below w.heap.size w w') :
    Calls Tryd.prog 21 #[.int .i64 op] w fun e w' => e = .returned (.int .i64 8) ∧ Below w.heap.size w w' := by
  have HO : Hid _ := hO
  clear hO
  go_enter Tryd.func21, Tryd.ntmps21
  go_wp2_with fail
  refine (HO.out _).mono ?_
  rintro e w1 ⟨rfl, hb⟩
  have B1 : Hid (Below w.heap.size w w1) := hb
  have B2 : Hid (Below w.heap.size w (w1.alloc (.cells #[.string s, .int .i64 15, .int .i64 cc, .int .i64 3, .int .i64 f7] 39))) := B1.out.alloc B1.out.size _
  have X2 : Hid _ := heap_alloc_new w1 (.cells #[.string s, .int .i64 15, .int .i64 cc, .int .i64 3, .int .i64 f7] 39)
  clear hb
  go_wp2_with fail
  refine (in3b 15 6 14 15 _ _ (by simp) true (by decide)).mono ?_
  rintro e w2 ⟨rfl, hb⟩
  have I0 : Hid (Below w.heap.size w w2 ∧ w2.heap[w1.heap.size]? = some (.cells #[.string s, .int .i64 15, .int .i64 cc, .int .i64 3, .int .i64 f7] 39 (0, 0))) := ⟨B2.out.trans (hb.mono B2.out.size), below_box X2.out hb⟩
  clear hb
  go_wp2
  go_loopw [4, 5] (fun v i wr => ∃ k : Nat, k ≤ 3 ∧ i = .int .i64 k ∧ v = .int .i64 ((2 ^ k : Nat) : Int) ∧ Below w.heap.size w wr ∧ wr.heap[w1.heap.size]? = some (.cells #[.string s, .int .i64 15, .int .i64 cc, .int .i64 3, .int .i64 f7] 39 (0, 0))) (fun _ i _ => 9 - (intOf i).toNat)
  case atStart => exact ⟨0, by omega, rfl, rfl, I0.out⟩
  case round =>
    obtain ⟨k, hk, rfl, rfl, hb, hx⟩ := hrel
    have I : Hid (_ ∧ _) := ⟨hb, hx⟩
    obtain ⟨y0, y1, y2, y3, y4⟩ := box5_facts hx
    clear hb hx I0
    have hp : 2 ^ k ≤ 8 := Nat.le_trans (Nat.pow_le_pow_right (by omega) (show k ≤ 3 by omega)) (by decide)
    have hs : 2 ^ (k + 1) = 2 ^ k * 2 := Nat.pow_succ 2 k
    have HS : Hid _ := hs
    clear hs
    by_cases hkm : k < 3
    · generalize hP : 2 ^ k = P at *
      have HP : Hid _ := hP
      clear hP
      have hpi : (P : Int) ≤ 8 := by omega
      have hki : (k : Int) < 3 := by omega
      go_wp2
      go_roundw
      case rel => exact ⟨k + 1, by omega, by go_num, by rw [HS.out]; go_num, I.out⟩
      case measure => simp [intOf]; omega
    · obtain rfl : k = 3 := by omega
      go_wp2
      go_ret
      exact ⟨by first | rfl | simp, I.out.1⟩
set_option maxHeartbeats 400000 in
theorem dwidth_no (op g : Int) (s : ByteArray) (cc f3 f7 : Int) (h5 : g ≠ 5) (hin : ([6, 14, 15] : List Int).contains g = false) (w : World) (hO : ∀ w, Calls Tryd.prog 16 #[.int .i64 op] w fun e w' => e = .returned (.agg #[.string s, .int .i64 g, .int .i64 cc, .int .i64 f3, .int .i64 f7]) ∧ Below w.heap.size w w') :
    Calls Tryd.prog 21 #[.int .i64 op] w fun e w' => e = .returned (.int .i64 0) ∧ Below w.heap.size w w' := by
  have HO : Hid _ := hO
  have HI : Hid _ := hin
  have b5 : (g == 5) = false := by simpa using h5
  clear hO hin h5
  go_enter Tryd.func21, Tryd.ntmps21
  go_wp2_with fail
  refine (HO.out _).mono ?_
  rintro e w1 ⟨rfl, hb⟩
  have B1 : Hid (Below w.heap.size w w1) := hb
  have B2 : Hid (Below w.heap.size w (w1.alloc (.cells #[.string s, .int .i64 g, .int .i64 cc, .int .i64 f3, .int .i64 f7] 39))) := B1.out.alloc B1.out.size _
  clear hb
  go_wp2_with fail
  refine (in3b g 6 14 15 _ _ (by simp) false HI.out).mono ?_
  rintro e w2 ⟨rfl, hb⟩
  have B3 : Hid (Below w.heap.size w w2) := B2.out.trans (hb.mono B2.out.size)
  clear hb
  go_wp2
  go_ret
  exact ⟨by first | rfl | simp, B3.out⟩
end Go.Proofs.YtnedhfdejfjfiaaDoor
