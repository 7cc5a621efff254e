/- The document's call number of layer 3: what a number adds to a word. -/
import Derived.Test.YtooaafbdjnlmfaaGreatDoorQDocRowsW
import Derived.Test.YtooaafbdjnlmfaaGreatDoorQOut
import Derived.Test.YtooaafbdjnlmfaaGreatDoorQDocRight
import Derived.Test.YtooaafbdjnlmfaaGreatDoorQBack
namespace Go.Proofs.YtooaafbdjnlmfaaGreatDoor
open Go.RowKit
set_option linter.unusedVariables false
set_option linter.unusedSimpArgs false
theorem part_ex (v : Int) (U : Nat) (hU : IntKind.u64.wrap v = (U : Int)) (hx : U < 18446744073709551616) (a n t : Int) (K : Nat) (h0 : 0 ≤ a) (h1 : a ≤ 63) (h2 : 0 ≤ n) (h3 : n ≤ 20) (h4 : 0 ≤ t) (h5 : t ≤ 31) (hK : 2 ^ t.toNat = K) (hm : 2 ^ n.toNat * K ≤ 4294967296) (w : World) :
    Calls Tryz.prog 88 #[.int .i64 v, .int .i64 a, .int .i64 n, .int .i64 t] w fun e w' => ∃ p : Nat, e = .returned (.int .i64 (p : Nat)) ∧ Hid (p = getI U a n * K) ∧ (p : Int) < 4294967296 ∧ Below w.heap.size w w' := by
  refine (part_any v U hU hx a n t h0 h1 h2 h3 h4 h5 w).mono ?_
  rintro e w' ⟨rfl, hb⟩
  rw [hK]
  have hl : getI U a n * K < 4294967296 := by
    rcases Nat.eq_zero_or_pos K with h | h
    · rw [h]; omega
    · exact Nat.lt_of_lt_of_le (Nat.mul_lt_mul_of_pos_right (getI_lt U a n) h) hm
  exact ⟨_, rfl, rfl, by omega, hb⟩
/-- what a number adds to a word, by the document's number of its form -/
def dNum (g U : Nat) : Nat := if g = 1 then getI U 12 20 * 4096 else if g = 2 then getI U 20 1 * 2147483648 + getI U 1 10 * 2097152 + getI U 11 1 * 1048576 + getI U 12 8 * 4096 else if g = 4 then getI U 12 1 * 2147483648 + getI U 5 6 * 33554432 + getI U 1 4 * 256 + getI U 11 1 * 128 else if g = 6 then getI U 5 7 * 33554432 + getI U 0 5 * 128 else if g = 13 then getI U 0 5 * 32768 else if g = 3 ∨ g = 5 ∨ g = 10 then getI U 0 12 * 1048576 else getI U 0 6 * 1048576
theorem dNum_1 (U : Nat) : dNum 1 U = getI U 12 20 * 4096 := by unfold dNum; rw [if_pos rfl]
theorem dNum_2 (U : Nat) : dNum 2 U = getI U 20 1 * 2147483648 + getI U 1 10 * 2097152 + getI U 11 1 * 1048576 + getI U 12 8 * 4096 := by unfold dNum; rw [if_neg (show ¬ (2 : Nat) = 1 by decide), if_pos rfl]
theorem dNum_3 (U : Nat) : dNum 3 U = getI U 0 12 * 1048576 := by unfold dNum; rw [if_neg (show ¬ (3 : Nat) = 1 by decide), if_neg (show ¬ (3 : Nat) = 2 by decide), if_neg (show ¬ (3 : Nat) = 4 by decide), if_neg (show ¬ (3 : Nat) = 6 by decide), if_neg (show ¬ (3 : Nat) = 13 by decide), if_pos (show (3 : Nat) = 3 ∨ (3 : Nat) = 5 ∨ (3 : Nat) = 10 by decide)]
theorem dNum_4 (U : Nat) : dNum 4 U = getI U 12 1 * 2147483648 + getI U 5 6 * 33554432 + getI U 1 4 * 256 + getI U 11 1 * 128 := by unfold dNum; rw [if_neg (show ¬ (4 : Nat) = 1 by decide), if_neg (show ¬ (4 : Nat) = 2 by decide), if_pos rfl]
theorem dNum_5 (U : Nat) : dNum 5 U = getI U 0 12 * 1048576 := by unfold dNum; rw [if_neg (show ¬ (5 : Nat) = 1 by decide), if_neg (show ¬ (5 : Nat) = 2 by decide), if_neg (show ¬ (5 : Nat) = 4 by decide), if_neg (show ¬ (5 : Nat) = 6 by decide), if_neg (show ¬ (5 : Nat) = 13 by decide), if_pos (show (5 : Nat) = 3 ∨ (5 : Nat) = 5 ∨ (5 : Nat) = 10 by decide)]
theorem dNum_6 (U : Nat) : dNum 6 U = getI U 5 7 * 33554432 + getI U 0 5 * 128 := by unfold dNum; rw [if_neg (show ¬ (6 : Nat) = 1 by decide), if_neg (show ¬ (6 : Nat) = 2 by decide), if_neg (show ¬ (6 : Nat) = 4 by decide), if_pos rfl]
theorem dNum_7 (U : Nat) : dNum 7 U = getI U 0 6 * 1048576 := by unfold dNum; rw [if_neg (show ¬ (7 : Nat) = 1 by decide), if_neg (show ¬ (7 : Nat) = 2 by decide), if_neg (show ¬ (7 : Nat) = 4 by decide), if_neg (show ¬ (7 : Nat) = 6 by decide), if_neg (show ¬ (7 : Nat) = 13 by decide), if_neg (show ¬ ((7 : Nat) = 3 ∨ (7 : Nat) = 5 ∨ (7 : Nat) = 10) by decide)]
theorem dNum_8 (U : Nat) : dNum 8 U = getI U 0 6 * 1048576 := by unfold dNum; rw [if_neg (show ¬ (8 : Nat) = 1 by decide), if_neg (show ¬ (8 : Nat) = 2 by decide), if_neg (show ¬ (8 : Nat) = 4 by decide), if_neg (show ¬ (8 : Nat) = 6 by decide), if_neg (show ¬ (8 : Nat) = 13 by decide), if_neg (show ¬ ((8 : Nat) = 3 ∨ (8 : Nat) = 5 ∨ (8 : Nat) = 10) by decide)]
theorem dNum_10 (U : Nat) : dNum 10 U = getI U 0 12 * 1048576 := by unfold dNum; rw [if_neg (show ¬ (10 : Nat) = 1 by decide), if_neg (show ¬ (10 : Nat) = 2 by decide), if_neg (show ¬ (10 : Nat) = 4 by decide), if_neg (show ¬ (10 : Nat) = 6 by decide), if_neg (show ¬ (10 : Nat) = 13 by decide), if_pos (show (10 : Nat) = 3 ∨ (10 : Nat) = 5 ∨ (10 : Nat) = 10 by decide)]
theorem dNum_13 (U : Nat) : dNum 13 U = getI U 0 5 * 32768 := by unfold dNum; rw [if_neg (show ¬ (13 : Nat) = 1 by decide), if_neg (show ¬ (13 : Nat) = 2 by decide), if_neg (show ¬ (13 : Nat) = 4 by decide), if_neg (show ¬ (13 : Nat) = 6 by decide), if_pos rfl]
set_option maxRecDepth 100000 in
set_option maxHeartbeats 400000 in
theorem num_1 (v : Int) (U : Nat) (hU : IntKind.u64.wrap v = (U : Int)) (hx : U < 18446744073709551616) (w : World) :
    Calls Tryz.prog 48 #[.int .i64 1, .int .i64 v] w fun e w' => e = .returned (.int .i64 (dNum 1 U : Nat)) ∧ Below w.heap.size w w' := by
  have B0 : Hid (Below w.heap.size w w) := Below.refl _ _
  have HU : Hid _ := hU
  clear hU
  go_enter Tryz.func48, Tryz.ntmps48
  go_wp2_with fail
  refine (part_ex v U HU.out hx 12 20 12 4096 (by decide) (by decide) (by decide) (by decide) (by decide) (by decide) (by decide) (by decide) _).mono ?_
  rintro e w1 ⟨p1, rfl, H1, l1, hb⟩
  have B1 : Hid (Below w.heap.size w w1) := B0.out.trans (hb.mono B0.out.size)
  clear hb
  go_wp2
  go_ret
  exact ⟨ret64 (by rw [dNum_1]; have e1 := H1.out; omega), B1.out⟩
set_option maxRecDepth 100000 in
set_option maxHeartbeats 400000 in
theorem num_2 (v : Int) (U : Nat) (hU : IntKind.u64.wrap v = (U : Int)) (hx : U < 18446744073709551616) (w : World) :
    Calls Tryz.prog 48 #[.int .i64 2, .int .i64 v] w fun e w' => e = .returned (.int .i64 (dNum 2 U : Nat)) ∧ Below w.heap.size w w' := by
  have B0 : Hid (Below w.heap.size w w) := Below.refl _ _
  have HU : Hid _ := hU
  clear hU
  go_enter Tryz.func48, Tryz.ntmps48
  go_wp2_with fail
  refine (part_ex v U HU.out hx 20 1 31 2147483648 (by decide) (by decide) (by decide) (by decide) (by decide) (by decide) (by decide) (by decide) _).mono ?_
  rintro e w1 ⟨p1, rfl, H1, l1, hb⟩
  have B1 : Hid (Below w.heap.size w w1) := B0.out.trans (hb.mono B0.out.size)
  clear hb
  go_wp2_with fail
  refine (part_ex v U HU.out hx 1 10 21 2097152 (by decide) (by decide) (by decide) (by decide) (by decide) (by decide) (by decide) (by decide) _).mono ?_
  rintro e w2 ⟨p2, rfl, H2, l2, hb⟩
  have B2 : Hid (Below w.heap.size w w2) := B1.out.trans (hb.mono B1.out.size)
  clear hb
  go_wp2_with fail
  refine (part_ex v U HU.out hx 11 1 20 1048576 (by decide) (by decide) (by decide) (by decide) (by decide) (by decide) (by decide) (by decide) _).mono ?_
  rintro e w3 ⟨p3, rfl, H3, l3, hb⟩
  have B3 : Hid (Below w.heap.size w w3) := B2.out.trans (hb.mono B2.out.size)
  clear hb
  go_wp2_with fail
  refine (part_ex v U HU.out hx 12 8 12 4096 (by decide) (by decide) (by decide) (by decide) (by decide) (by decide) (by decide) (by decide) _).mono ?_
  rintro e w4 ⟨p4, rfl, H4, l4, hb⟩
  have B4 : Hid (Below w.heap.size w w4) := B3.out.trans (hb.mono B3.out.size)
  clear hb
  go_wp2
  go_ret
  exact ⟨ret64 (by rw [dNum_2]; have e1 := H1.out; have e2 := H2.out; have e3 := H3.out; have e4 := H4.out; omega), B4.out⟩
set_option maxRecDepth 100000 in
set_option maxHeartbeats 400000 in
theorem num_3 (v : Int) (U : Nat) (hU : IntKind.u64.wrap v = (U : Int)) (hx : U < 18446744073709551616) (w : World) :
    Calls Tryz.prog 48 #[.int .i64 3, .int .i64 v] w fun e w' => e = .returned (.int .i64 (dNum 3 U : Nat)) ∧ Below w.heap.size w w' := by
  have B0 : Hid (Below w.heap.size w w) := Below.refl _ _
  have HU : Hid _ := hU
  clear hU
  go_enter Tryz.func48, Tryz.ntmps48
  go_wp2_with fail
  refine (part_ex v U HU.out hx 0 12 20 1048576 (by decide) (by decide) (by decide) (by decide) (by decide) (by decide) (by decide) (by decide) _).mono ?_
  rintro e w1 ⟨p1, rfl, H1, l1, hb⟩
  have B1 : Hid (Below w.heap.size w w1) := B0.out.trans (hb.mono B0.out.size)
  clear hb
  go_wp2
  go_ret
  exact ⟨ret64 (by rw [dNum_3]; have e1 := H1.out; omega), B1.out⟩
set_option maxRecDepth 100000 in
set_option maxHeartbeats 400000 in
theorem num_4 (v : Int) (U : Nat) (hU : IntKind.u64.wrap v = (U : Int)) (hx : U < 18446744073709551616) (w : World) :
    Calls Tryz.prog 48 #[.int .i64 4, .int .i64 v] w fun e w' => e = .returned (.int .i64 (dNum 4 U : Nat)) ∧ Below w.heap.size w w' := by
  have B0 : Hid (Below w.heap.size w w) := Below.refl _ _
  have HU : Hid _ := hU
  clear hU
  go_enter Tryz.func48, Tryz.ntmps48
  go_wp2_with fail
  refine (part_ex v U HU.out hx 12 1 31 2147483648 (by decide) (by decide) (by decide) (by decide) (by decide) (by decide) (by decide) (by decide) _).mono ?_
  rintro e w1 ⟨p1, rfl, H1, l1, hb⟩
  have B1 : Hid (Below w.heap.size w w1) := B0.out.trans (hb.mono B0.out.size)
  clear hb
  go_wp2_with fail
  refine (part_ex v U HU.out hx 5 6 25 33554432 (by decide) (by decide) (by decide) (by decide) (by decide) (by decide) (by decide) (by decide) _).mono ?_
  rintro e w2 ⟨p2, rfl, H2, l2, hb⟩
  have B2 : Hid (Below w.heap.size w w2) := B1.out.trans (hb.mono B1.out.size)
  clear hb
  go_wp2_with fail
  refine (part_ex v U HU.out hx 1 4 8 256 (by decide) (by decide) (by decide) (by decide) (by decide) (by decide) (by decide) (by decide) _).mono ?_
  rintro e w3 ⟨p3, rfl, H3, l3, hb⟩
  have B3 : Hid (Below w.heap.size w w3) := B2.out.trans (hb.mono B2.out.size)
  clear hb
  go_wp2_with fail
  refine (part_ex v U HU.out hx 11 1 7 128 (by decide) (by decide) (by decide) (by decide) (by decide) (by decide) (by decide) (by decide) _).mono ?_
  rintro e w4 ⟨p4, rfl, H4, l4, hb⟩
  have B4 : Hid (Below w.heap.size w w4) := B3.out.trans (hb.mono B3.out.size)
  clear hb
  go_wp2
  go_ret
  exact ⟨ret64 (by rw [dNum_4]; have e1 := H1.out; have e2 := H2.out; have e3 := H3.out; have e4 := H4.out; omega), B4.out⟩
set_option maxRecDepth 100000 in
set_option maxHeartbeats 400000 in
theorem num_5 (v : Int) (U : Nat) (hU : IntKind.u64.wrap v = (U : Int)) (hx : U < 18446744073709551616) (w : World) :
    Calls Tryz.prog 48 #[.int .i64 5, .int .i64 v] w fun e w' => e = .returned (.int .i64 (dNum 5 U : Nat)) ∧ Below w.heap.size w w' := by
  have B0 : Hid (Below w.heap.size w w) := Below.refl _ _
  have HU : Hid _ := hU
  clear hU
  go_enter Tryz.func48, Tryz.ntmps48
  go_wp2_with fail
  refine (part_ex v U HU.out hx 0 12 20 1048576 (by decide) (by decide) (by decide) (by decide) (by decide) (by decide) (by decide) (by decide) _).mono ?_
  rintro e w1 ⟨p1, rfl, H1, l1, hb⟩
  have B1 : Hid (Below w.heap.size w w1) := B0.out.trans (hb.mono B0.out.size)
  clear hb
  go_wp2
  go_ret
  exact ⟨ret64 (by rw [dNum_5]; have e1 := H1.out; omega), B1.out⟩
set_option maxRecDepth 100000 in
set_option maxHeartbeats 400000 in
theorem num_6 (v : Int) (U : Nat) (hU : IntKind.u64.wrap v = (U : Int)) (hx : U < 18446744073709551616) (w : World) :
    Calls Tryz.prog 48 #[.int .i64 6, .int .i64 v] w fun e w' => e = .returned (.int .i64 (dNum 6 U : Nat)) ∧ Below w.heap.size w w' := by
  have B0 : Hid (Below w.heap.size w w) := Below.refl _ _
  have HU : Hid _ := hU
  clear hU
  go_enter Tryz.func48, Tryz.ntmps48
  go_wp2_with fail
  refine (part_ex v U HU.out hx 5 7 25 33554432 (by decide) (by decide) (by decide) (by decide) (by decide) (by decide) (by decide) (by decide) _).mono ?_
  rintro e w1 ⟨p1, rfl, H1, l1, hb⟩
  have B1 : Hid (Below w.heap.size w w1) := B0.out.trans (hb.mono B0.out.size)
  clear hb
  go_wp2_with fail
  refine (part_ex v U HU.out hx 0 5 7 128 (by decide) (by decide) (by decide) (by decide) (by decide) (by decide) (by decide) (by decide) _).mono ?_
  rintro e w2 ⟨p2, rfl, H2, l2, hb⟩
  have B2 : Hid (Below w.heap.size w w2) := B1.out.trans (hb.mono B1.out.size)
  clear hb
  go_wp2
  go_ret
  exact ⟨ret64 (by rw [dNum_6]; have e1 := H1.out; have e2 := H2.out; omega), B2.out⟩
set_option maxRecDepth 100000 in
set_option maxHeartbeats 400000 in
theorem num_7 (v : Int) (U : Nat) (hU : IntKind.u64.wrap v = (U : Int)) (hx : U < 18446744073709551616) (w : World) :
    Calls Tryz.prog 48 #[.int .i64 7, .int .i64 v] w fun e w' => e = .returned (.int .i64 (dNum 7 U : Nat)) ∧ Below w.heap.size w w' := by
  have B0 : Hid (Below w.heap.size w w) := Below.refl _ _
  have HU : Hid _ := hU
  clear hU
  go_enter Tryz.func48, Tryz.ntmps48
  go_wp2_with fail
  refine (part_ex v U HU.out hx 0 6 20 1048576 (by decide) (by decide) (by decide) (by decide) (by decide) (by decide) (by decide) (by decide) _).mono ?_
  rintro e w1 ⟨p1, rfl, H1, l1, hb⟩
  have B1 : Hid (Below w.heap.size w w1) := B0.out.trans (hb.mono B0.out.size)
  clear hb
  go_wp2
  go_ret
  exact ⟨ret64 (by rw [dNum_7]; have e1 := H1.out; omega), B1.out⟩
set_option maxRecDepth 100000 in
set_option maxHeartbeats 400000 in
theorem num_8 (v : Int) (U : Nat) (hU : IntKind.u64.wrap v = (U : Int)) (hx : U < 18446744073709551616) (w : World) :
    Calls Tryz.prog 48 #[.int .i64 8, .int .i64 v] w fun e w' => e = .returned (.int .i64 (dNum 8 U : Nat)) ∧ Below w.heap.size w w' := by
  have B0 : Hid (Below w.heap.size w w) := Below.refl _ _
  have HU : Hid _ := hU
  clear hU
  go_enter Tryz.func48, Tryz.ntmps48
  go_wp2_with fail
  refine (part_ex v U HU.out hx 0 6 20 1048576 (by decide) (by decide) (by decide) (by decide) (by decide) (by decide) (by decide) (by decide) _).mono ?_
  rintro e w1 ⟨p1, rfl, H1, l1, hb⟩
  have B1 : Hid (Below w.heap.size w w1) := B0.out.trans (hb.mono B0.out.size)
  clear hb
  go_wp2
  go_ret
  exact ⟨ret64 (by rw [dNum_8]; have e1 := H1.out; omega), B1.out⟩
set_option maxRecDepth 100000 in
set_option maxHeartbeats 400000 in
theorem num_10 (v : Int) (U : Nat) (hU : IntKind.u64.wrap v = (U : Int)) (hx : U < 18446744073709551616) (w : World) :
    Calls Tryz.prog 48 #[.int .i64 10, .int .i64 v] w fun e w' => e = .returned (.int .i64 (dNum 10 U : Nat)) ∧ Below w.heap.size w w' := by
  have B0 : Hid (Below w.heap.size w w) := Below.refl _ _
  have HU : Hid _ := hU
  clear hU
  go_enter Tryz.func48, Tryz.ntmps48
  go_wp2_with fail
  refine (part_ex v U HU.out hx 0 12 20 1048576 (by decide) (by decide) (by decide) (by decide) (by decide) (by decide) (by decide) (by decide) _).mono ?_
  rintro e w1 ⟨p1, rfl, H1, l1, hb⟩
  have B1 : Hid (Below w.heap.size w w1) := B0.out.trans (hb.mono B0.out.size)
  clear hb
  go_wp2
  go_ret
  exact ⟨ret64 (by rw [dNum_10]; have e1 := H1.out; omega), B1.out⟩
set_option maxRecDepth 100000 in
set_option maxHeartbeats 400000 in
theorem num_13 (v : Int) (U : Nat) (hU : IntKind.u64.wrap v = (U : Int)) (hx : U < 18446744073709551616) (w : World) :
    Calls Tryz.prog 48 #[.int .i64 13, .int .i64 v] w fun e w' => e = .returned (.int .i64 (dNum 13 U : Nat)) ∧ Below w.heap.size w w' := by
  have B0 : Hid (Below w.heap.size w w) := Below.refl _ _
  have HU : Hid _ := hU
  clear hU
  go_enter Tryz.func48, Tryz.ntmps48
  go_wp2_with fail
  refine (part_ex v U HU.out hx 0 5 15 32768 (by decide) (by decide) (by decide) (by decide) (by decide) (by decide) (by decide) (by decide) _).mono ?_
  rintro e w1 ⟨p1, rfl, H1, l1, hb⟩
  have B1 : Hid (Below w.heap.size w w1) := B0.out.trans (hb.mono B0.out.size)
  clear hb
  go_wp2
  go_ret
  exact ⟨ret64 (by rw [dNum_13]; have e1 := H1.out; omega), B1.out⟩
theorem num_any (g : Nat) (hg : (docSpan g).2 = true) (v : Int) (U : Nat) (hU : IntKind.u64.wrap v = (U : Int)) (hx : U < 18446744073709551616) (w : World) :
    Calls Tryz.prog 48 #[.int .i64 (g : Nat), .int .i64 v] w fun e w' => e = .returned (.int .i64 (dNum g U : Nat)) ∧ Below w.heap.size w w' := by
  have h : g = 1 ∨ g = 2 ∨ g = 3 ∨ g = 4 ∨ g = 5 ∨ g = 6 ∨ g = 7 ∨ g = 8 ∨ g = 10 ∨ g = 13 := by
    unfold docSpan at hg
    refine Classical.byContradiction fun hn => ?_
    simp only [not_or] at hn
    rw [if_neg hn.1, if_neg hn.2.1, if_neg hn.2.2.2.1, if_neg (by omega), if_neg hn.2.2.2.2.2.2.1, if_neg (by omega), if_neg hn.2.2.2.2.2.2.2.2.1] at hg
    cases hg
  rcases h with rfl | rfl | rfl | rfl | rfl | rfl | rfl | rfl | rfl | rfl
  · exact num_1 v U hU hx w
  · exact num_2 v U hU hx w
  · exact num_3 v U hU hx w
  · exact num_4 v U hU hx w
  · exact num_5 v U hU hx w
  · exact num_6 v U hU hx w
  · exact num_7 v U hU hx w
  · exact num_8 v U hU hx w
  · exact num_10 v U hU hx w
  · exact num_13 v U hU hx w
end Go.Proofs.YtooaafbdjnlmfaaGreatDoor

namespace Go.Proofs.YtooaafbdjnlmfaaGreatDoor
open Go.RowKit
set_option linter.unusedVariables false
set_option linter.unusedSimpArgs false
/-- what the number adds, if the form has one -/
def dNumI (g U : Nat) : Nat := if (docSpan g).2 = true then dNum g U else 0
/-- a word, as the document sums it up -/
def dSum (g cc a b c d f3 n f7 : Nat) (aq rl : Bool) : Nat := cc + a * 128 + b * 32768 + c * 1048576 + d * 1048576 + dA3 g f3 + n + dA7 g f7 + (if aq then 67108864 else 0) + (if rl then 33554432 else 0)
theorem dimm_ok (g : Nat) (hg : g < 17) (ok : Bool) (h : (docSpan g).2 = ok) (gi : Int) (hi : ((g : Nat) : Int) = gi) : ∃ lo hi st : Int, ∀ w, Calls Tryz.prog 47 #[.int .i64 gi] w fun e w' => e = .returned (.tuple #[.int .i64 lo, .int .i64 hi, .int .i64 st, .bool ok]) ∧ w' = w := by
  subst h hi
  exact ⟨_, _, _, dimm_any g hg⟩
theorem add_order (n : Nat) : n + (if false = true then 67108864 else 0) + (if false = true then 33554432 else 0) = n ∧ n + (if false = true then 67108864 else 0) + (if true = true then 33554432 else 0) = n + 33554432 ∧ n + (if true = true then 67108864 else 0) + (if false = true then 33554432 else 0) = n + 67108864 ∧ n + (if true = true then 67108864 else 0) + (if true = true then 33554432 else 0) = n + 67108864 + 33554432 := by simp
theorem dA3_no (g n : Nat) (h : ([1, 2] : List Int).contains (g : Int) = false) : dA3 g n = n * 4096 := by unfold dA3; rw [h]; rfl
theorem dA3_yes (g n : Nat) (h : ([1, 2] : List Int).contains (g : Int) = true) : dA3 g n = 0 := by unfold dA3; rw [h]; rfl
theorem dA7_a (g n : Nat) (h : g = 7 ∨ g = 8 ∨ g = 9 ∨ g = 16) : dA7 g n = n * 33554432 := by unfold dA7; rw [if_pos h]
theorem dA7_b (n : Nat) : dA7 11 n = n * 1048576 := by unfold dA7; rw [if_neg (by decide), if_pos rfl]
theorem dA7_c (g n : Nat) (h : g = 14 ∨ g = 15) : dA7 g n = n * 134217728 := by unfold dA7; rw [if_neg (by omega), if_neg (by omega), if_pos h]
theorem dA7_d (g n : Nat) (h : ¬ (g = 7 ∨ g = 8 ∨ g = 9 ∨ g = 16)) (h2 : ¬ g = 11) (h3 : ¬ (g = 14 ∨ g = 15)) : dA7 g n = 0 := by unfold dA7; rw [if_neg h, if_neg h2, if_neg h3]
theorem cast_sum (x y z u : Nat) (h : x = y + z + u) : (x : Int) = y + z + u := by omega
end Go.Proofs.YtooaafbdjnlmfaaGreatDoor

namespace Go.Proofs.YtooaafbdjnlmfaaGreatDoor
open Go.RowKit
set_option linter.unusedVariables false
set_option linter.unusedSimpArgs false
theorem fin_word_1 (cc a b c d f3 n f7 : Nat) : dSum 1 cc a b c d f3 n f7 false false = cc + a * 128 + b * 32768 + c * 1048576 + d * 1048576 + 0 + n + 0 := by
  unfold dSum
  rw [(add_order _).1, dA3_yes 1 _ (by decide), dA7_d 1 _ (by decide) (by decide) (by decide)]
set_option maxRecDepth 100000 in
set_option maxHeartbeats 1000000 in
theorem word_1 (o a b c d cc f3 f7 n : Nat) (imm : Int) (s : ByteArray) (ha : a ≤ 31) (hb : b ≤ 31) (hc : c ≤ 31) (hd : d ≤ 4095) (hcc : cc < 128) (hf3 : f3 < 8) (hf7 : f7 < 1024) (hn : n < 4294967296) (w : World)
    (hO : ∀ w, Calls Tryz.prog 45 #[.int .i64 (o : Nat)] w fun e w' => e = .returned (.agg #[.string s, .int .i64 1, .int .i64 (cc : Nat), .int .i64 (f3 : Nat), .int .i64 (f7 : Nat)]) ∧ Below w.heap.size w w')
    (hN : ∀ w, Calls Tryz.prog 48 #[.int .i64 1, .int .i64 imm] w fun e w' => e = .returned (.int .i64 (n : Nat)) ∧ Below w.heap.size w w')
    : Calls Tryz.prog 16 #[.agg (instrC (o : Nat) (a : Nat) (b : Nat) (c : Nat) imm (d : Nat) false false)] w fun e w' => e = .returned (.int .i64 (dSum 1 cc a b c d f3 n f7 false false : Nat)) ∧ Below w.heap.size w w' := by
  have S0 : Hid (BoxIn w (w.alloc (.cells (instrC (o : Nat) (a : Nat) (b : Nat) (c : Nat) imm (d : Nat) false false) 23)) (instrC (o : Nat) (a : Nat) (b : Nat) (c : Nat) imm (d : Nat) false false)) := BoxIn.new w (instrC (o : Nat) (a : Nat) (b : Nat) (c : Nat) imm (d : Nat) false false)
  have HO : Hid _ := hO
  have HN : Hid _ := hN
  clear hN
  obtain ⟨lo, hi, st, hI⟩ := dimm_ok 1 (by decide) true (by decide) 1 rfl
  have HI : Hid _ := hI
  clear hI
  clear hO
  have ia : (a : Int) ≤ 31 := by omega
  have ib : (b : Int) ≤ 31 := by omega
  have ic : (c : Int) ≤ 31 := by omega
  have id' : (d : Int) ≤ 4095 := by omega
  have icc : (cc : Int) < 128 := by omega
  have if3 : (f3 : Int) < 8 := by omega
  have if7 : (f7 : Int) < 1024 := by omega
  have inn : (n : Int) < 4294967296 := by omega
  go_enter Tryz.func16, Tryz.ntmps16
  go_wp2_with fail
  refine (HO.out _).mono ?_
  rintro e w1 ⟨rfl, hb1⟩
  have S1 : Hid (BoxIn w w1 (instrC (o : Nat) (a : Nat) (b : Nat) (c : Nat) imm (d : Nat) false false)) := S0.out.step hb1
  obtain ⟨q0, q1, q2, q3, q4, q5, q6, q7⟩ := box8_facts S1.out.2
  have l1 : w.heap.size < w1.heap.size := (Array.getElem?_eq_some_iff.1 S1.out.2).1
  have X1 : Hid _ := heap_alloc_new w1 (.cells #[.string s, .int .i64 1, .int .i64 (cc : Nat), .int .i64 (f3 : Nat), .int .i64 (f7 : Nat)] 72)
  have S2 : Hid (BoxIn w (w1.alloc (.cells #[.string s, .int .i64 1, .int .i64 (cc : Nat), .int .i64 (f3 : Nat), .int .i64 (f7 : Nat)] 72)) (instrC (o : Nat) (a : Nat) (b : Nat) (c : Nat) imm (d : Nat) false false)) := S1.out.alloc _
  clear hb1
  go_wp2_with fail
  refine (in2b 1 1 2 _ _ (by simp) true (by decide) ).mono ?_
  rintro e w2 ⟨rfl, hb2⟩
  have S3 : Hid (BoxIn w w2 (instrC (o : Nat) (a : Nat) (b : Nat) (c : Nat) imm (d : Nat) false false)) := S2.out.step hb2
  have X2 : Hid _ := below_box X1.out hb2
  have l2 : w1.heap.size < w2.heap.size := (Array.getElem?_eq_some_iff.1 X2.out).1
  obtain ⟨r0, r1, r2, r3, r4, r5, r6, r7⟩ := box8_facts S3.out.2
  obtain ⟨z0, z1, z2, z3, z4⟩ := box5_facts X2.out
  clear hb2 X1 S2 S1 S0 q0 q1 q2 q3 q4 q5 q6 q7
  go_wp2_with (first | (go_at_call 47; refine (HI.out _).mono ?_; rintro e w' ⟨rfl, hw⟩; rw [hw]; clear hw))
  refine (HN.out _).mono ?_
  rintro e w3 ⟨rfl, hb3⟩
  have S4 : Hid (BoxIn w w3 (instrC (o : Nat) (a : Nat) (b : Nat) (c : Nat) imm (d : Nat) false false)) := S3.out.step hb3
  have X3 : Hid _ := below_box X2.out hb3
  obtain ⟨q0, q1, q2, q3, q4, q5, q6, q7⟩ := box8_facts S4.out.2
  obtain ⟨y0, y1, y2, y3, y4⟩ := box5_facts X3.out
  clear hb3
  go_wp2
  go_ret
  exact ⟨ret64 (by have e := fin_word_1 cc a b c d f3 n f7; omega), S4.out.1⟩
theorem fin_word_2 (cc a b c d f3 n f7 : Nat) : dSum 2 cc a b c d f3 n f7 false false = cc + a * 128 + b * 32768 + c * 1048576 + d * 1048576 + 0 + n + 0 := by
  unfold dSum
  rw [(add_order _).1, dA3_yes 2 _ (by decide), dA7_d 2 _ (by decide) (by decide) (by decide)]
set_option maxRecDepth 100000 in
set_option maxHeartbeats 1000000 in
theorem word_2 (o a b c d cc f3 f7 n : Nat) (imm : Int) (s : ByteArray) (ha : a ≤ 31) (hb : b ≤ 31) (hc : c ≤ 31) (hd : d ≤ 4095) (hcc : cc < 128) (hf3 : f3 < 8) (hf7 : f7 < 1024) (hn : n < 4294967296) (w : World)
    (hO : ∀ w, Calls Tryz.prog 45 #[.int .i64 (o : Nat)] w fun e w' => e = .returned (.agg #[.string s, .int .i64 2, .int .i64 (cc : Nat), .int .i64 (f3 : Nat), .int .i64 (f7 : Nat)]) ∧ Below w.heap.size w w')
    (hN : ∀ w, Calls Tryz.prog 48 #[.int .i64 2, .int .i64 imm] w fun e w' => e = .returned (.int .i64 (n : Nat)) ∧ Below w.heap.size w w')
    : Calls Tryz.prog 16 #[.agg (instrC (o : Nat) (a : Nat) (b : Nat) (c : Nat) imm (d : Nat) false false)] w fun e w' => e = .returned (.int .i64 (dSum 2 cc a b c d f3 n f7 false false : Nat)) ∧ Below w.heap.size w w' := by
  have S0 : Hid (BoxIn w (w.alloc (.cells (instrC (o : Nat) (a : Nat) (b : Nat) (c : Nat) imm (d : Nat) false false) 23)) (instrC (o : Nat) (a : Nat) (b : Nat) (c : Nat) imm (d : Nat) false false)) := BoxIn.new w (instrC (o : Nat) (a : Nat) (b : Nat) (c : Nat) imm (d : Nat) false false)
  have HO : Hid _ := hO
  have HN : Hid _ := hN
  clear hN
  obtain ⟨lo, hi, st, hI⟩ := dimm_ok 2 (by decide) true (by decide) 2 rfl
  have HI : Hid _ := hI
  clear hI
  clear hO
  have ia : (a : Int) ≤ 31 := by omega
  have ib : (b : Int) ≤ 31 := by omega
  have ic : (c : Int) ≤ 31 := by omega
  have id' : (d : Int) ≤ 4095 := by omega
  have icc : (cc : Int) < 128 := by omega
  have if3 : (f3 : Int) < 8 := by omega
  have if7 : (f7 : Int) < 1024 := by omega
  have inn : (n : Int) < 4294967296 := by omega
  go_enter Tryz.func16, Tryz.ntmps16
  go_wp2_with fail
  refine (HO.out _).mono ?_
  rintro e w1 ⟨rfl, hb1⟩
  have S1 : Hid (BoxIn w w1 (instrC (o : Nat) (a : Nat) (b : Nat) (c : Nat) imm (d : Nat) false false)) := S0.out.step hb1
  obtain ⟨q0, q1, q2, q3, q4, q5, q6, q7⟩ := box8_facts S1.out.2
  have l1 : w.heap.size < w1.heap.size := (Array.getElem?_eq_some_iff.1 S1.out.2).1
  have X1 : Hid _ := heap_alloc_new w1 (.cells #[.string s, .int .i64 2, .int .i64 (cc : Nat), .int .i64 (f3 : Nat), .int .i64 (f7 : Nat)] 72)
  have S2 : Hid (BoxIn w (w1.alloc (.cells #[.string s, .int .i64 2, .int .i64 (cc : Nat), .int .i64 (f3 : Nat), .int .i64 (f7 : Nat)] 72)) (instrC (o : Nat) (a : Nat) (b : Nat) (c : Nat) imm (d : Nat) false false)) := S1.out.alloc _
  clear hb1
  go_wp2_with fail
  refine (in2b 2 1 2 _ _ (by simp) true (by decide) ).mono ?_
  rintro e w2 ⟨rfl, hb2⟩
  have S3 : Hid (BoxIn w w2 (instrC (o : Nat) (a : Nat) (b : Nat) (c : Nat) imm (d : Nat) false false)) := S2.out.step hb2
  have X2 : Hid _ := below_box X1.out hb2
  have l2 : w1.heap.size < w2.heap.size := (Array.getElem?_eq_some_iff.1 X2.out).1
  obtain ⟨r0, r1, r2, r3, r4, r5, r6, r7⟩ := box8_facts S3.out.2
  obtain ⟨z0, z1, z2, z3, z4⟩ := box5_facts X2.out
  clear hb2 X1 S2 S1 S0 q0 q1 q2 q3 q4 q5 q6 q7
  go_wp2_with (first | (go_at_call 47; refine (HI.out _).mono ?_; rintro e w' ⟨rfl, hw⟩; rw [hw]; clear hw))
  refine (HN.out _).mono ?_
  rintro e w3 ⟨rfl, hb3⟩
  have S4 : Hid (BoxIn w w3 (instrC (o : Nat) (a : Nat) (b : Nat) (c : Nat) imm (d : Nat) false false)) := S3.out.step hb3
  have X3 : Hid _ := below_box X2.out hb3
  obtain ⟨q0, q1, q2, q3, q4, q5, q6, q7⟩ := box8_facts S4.out.2
  obtain ⟨y0, y1, y2, y3, y4⟩ := box5_facts X3.out
  clear hb3
  go_wp2
  go_ret
  exact ⟨ret64 (by have e := fin_word_2 cc a b c d f3 n f7; omega), S4.out.1⟩
theorem fin_word_3 (cc a b c d f3 n f7 : Nat) : dSum 3 cc a b c d f3 n f7 false false = cc + a * 128 + b * 32768 + c * 1048576 + d * 1048576 + f3 * 4096 + n + 0 := by
  unfold dSum
  rw [(add_order _).1, dA3_no 3 _ (by decide), dA7_d 3 _ (by decide) (by decide) (by decide)]
set_option maxRecDepth 100000 in
set_option maxHeartbeats 1000000 in
theorem word_3 (o a b c d cc f3 f7 n : Nat) (imm : Int) (s : ByteArray) (ha : a ≤ 31) (hb : b ≤ 31) (hc : c ≤ 31) (hd : d ≤ 4095) (hcc : cc < 128) (hf3 : f3 < 8) (hf7 : f7 < 1024) (hn : n < 4294967296) (w : World)
    (hO : ∀ w, Calls Tryz.prog 45 #[.int .i64 (o : Nat)] w fun e w' => e = .returned (.agg #[.string s, .int .i64 3, .int .i64 (cc : Nat), .int .i64 (f3 : Nat), .int .i64 (f7 : Nat)]) ∧ Below w.heap.size w w')
    (hN : ∀ w, Calls Tryz.prog 48 #[.int .i64 3, .int .i64 imm] w fun e w' => e = .returned (.int .i64 (n : Nat)) ∧ Below w.heap.size w w')
    : Calls Tryz.prog 16 #[.agg (instrC (o : Nat) (a : Nat) (b : Nat) (c : Nat) imm (d : Nat) false false)] w fun e w' => e = .returned (.int .i64 (dSum 3 cc a b c d f3 n f7 false false : Nat)) ∧ Below w.heap.size w w' := by
  have S0 : Hid (BoxIn w (w.alloc (.cells (instrC (o : Nat) (a : Nat) (b : Nat) (c : Nat) imm (d : Nat) false false) 23)) (instrC (o : Nat) (a : Nat) (b : Nat) (c : Nat) imm (d : Nat) false false)) := BoxIn.new w (instrC (o : Nat) (a : Nat) (b : Nat) (c : Nat) imm (d : Nat) false false)
  have HO : Hid _ := hO
  have HN : Hid _ := hN
  clear hN
  obtain ⟨lo, hi, st, hI⟩ := dimm_ok 3 (by decide) true (by decide) 3 rfl
  have HI : Hid _ := hI
  clear hI
  clear hO
  have ia : (a : Int) ≤ 31 := by omega
  have ib : (b : Int) ≤ 31 := by omega
  have ic : (c : Int) ≤ 31 := by omega
  have id' : (d : Int) ≤ 4095 := by omega
  have icc : (cc : Int) < 128 := by omega
  have if3 : (f3 : Int) < 8 := by omega
  have if7 : (f7 : Int) < 1024 := by omega
  have inn : (n : Int) < 4294967296 := by omega
  go_enter Tryz.func16, Tryz.ntmps16
  go_wp2_with fail
  refine (HO.out _).mono ?_
  rintro e w1 ⟨rfl, hb1⟩
  have S1 : Hid (BoxIn w w1 (instrC (o : Nat) (a : Nat) (b : Nat) (c : Nat) imm (d : Nat) false false)) := S0.out.step hb1
  obtain ⟨q0, q1, q2, q3, q4, q5, q6, q7⟩ := box8_facts S1.out.2
  have l1 : w.heap.size < w1.heap.size := (Array.getElem?_eq_some_iff.1 S1.out.2).1
  have X1 : Hid _ := heap_alloc_new w1 (.cells #[.string s, .int .i64 3, .int .i64 (cc : Nat), .int .i64 (f3 : Nat), .int .i64 (f7 : Nat)] 72)
  have S2 : Hid (BoxIn w (w1.alloc (.cells #[.string s, .int .i64 3, .int .i64 (cc : Nat), .int .i64 (f3 : Nat), .int .i64 (f7 : Nat)] 72)) (instrC (o : Nat) (a : Nat) (b : Nat) (c : Nat) imm (d : Nat) false false)) := S1.out.alloc _
  clear hb1
  go_wp2_with fail
  refine (in2b 3 1 2 _ _ (by simp) false (by decide) ).mono ?_
  rintro e w2 ⟨rfl, hb2⟩
  have S3 : Hid (BoxIn w w2 (instrC (o : Nat) (a : Nat) (b : Nat) (c : Nat) imm (d : Nat) false false)) := S2.out.step hb2
  have X2 : Hid _ := below_box X1.out hb2
  have l2 : w1.heap.size < w2.heap.size := (Array.getElem?_eq_some_iff.1 X2.out).1
  obtain ⟨r0, r1, r2, r3, r4, r5, r6, r7⟩ := box8_facts S3.out.2
  obtain ⟨z0, z1, z2, z3, z4⟩ := box5_facts X2.out
  clear hb2 X1 S2 S1 S0 q0 q1 q2 q3 q4 q5 q6 q7
  go_wp2_with (first | (go_at_call 47; refine (HI.out _).mono ?_; rintro e w' ⟨rfl, hw⟩; rw [hw]; clear hw))
  refine (HN.out _).mono ?_
  rintro e w3 ⟨rfl, hb3⟩
  have S4 : Hid (BoxIn w w3 (instrC (o : Nat) (a : Nat) (b : Nat) (c : Nat) imm (d : Nat) false false)) := S3.out.step hb3
  have X3 : Hid _ := below_box X2.out hb3
  obtain ⟨q0, q1, q2, q3, q4, q5, q6, q7⟩ := box8_facts S4.out.2
  obtain ⟨y0, y1, y2, y3, y4⟩ := box5_facts X3.out
  clear hb3
  go_wp2
  go_ret
  exact ⟨ret64 (by have e := fin_word_3 cc a b c d f3 n f7; omega), S4.out.1⟩
theorem fin_word_4 (cc a b c d f3 n f7 : Nat) : dSum 4 cc a b c d f3 n f7 false false = cc + a * 128 + b * 32768 + c * 1048576 + d * 1048576 + f3 * 4096 + n + 0 := by
  unfold dSum
  rw [(add_order _).1, dA3_no 4 _ (by decide), dA7_d 4 _ (by decide) (by decide) (by decide)]
set_option maxRecDepth 100000 in
set_option maxHeartbeats 1000000 in
theorem word_4 (o a b c d cc f3 f7 n : Nat) (imm : Int) (s : ByteArray) (ha : a ≤ 31) (hb : b ≤ 31) (hc : c ≤ 31) (hd : d ≤ 4095) (hcc : cc < 128) (hf3 : f3 < 8) (hf7 : f7 < 1024) (hn : n < 4294967296) (w : World)
    (hO : ∀ w, Calls Tryz.prog 45 #[.int .i64 (o : Nat)] w fun e w' => e = .returned (.agg #[.string s, .int .i64 4, .int .i64 (cc : Nat), .int .i64 (f3 : Nat), .int .i64 (f7 : Nat)]) ∧ Below w.heap.size w w')
    (hN : ∀ w, Calls Tryz.prog 48 #[.int .i64 4, .int .i64 imm] w fun e w' => e = .returned (.int .i64 (n : Nat)) ∧ Below w.heap.size w w')
    : Calls Tryz.prog 16 #[.agg (instrC (o : Nat) (a : Nat) (b : Nat) (c : Nat) imm (d : Nat) false false)] w fun e w' => e = .returned (.int .i64 (dSum 4 cc a b c d f3 n f7 false false : Nat)) ∧ Below w.heap.size w w' := by
  have S0 : Hid (BoxIn w (w.alloc (.cells (instrC (o : Nat) (a : Nat) (b : Nat) (c : Nat) imm (d : Nat) false false) 23)) (instrC (o : Nat) (a : Nat) (b : Nat) (c : Nat) imm (d : Nat) false false)) := BoxIn.new w (instrC (o : Nat) (a : Nat) (b : Nat) (c : Nat) imm (d : Nat) false false)
  have HO : Hid _ := hO
  have HN : Hid _ := hN
  clear hN
  obtain ⟨lo, hi, st, hI⟩ := dimm_ok 4 (by decide) true (by decide) 4 rfl
  have HI : Hid _ := hI
  clear hI
  clear hO
  have ia : (a : Int) ≤ 31 := by omega
  have ib : (b : Int) ≤ 31 := by omega
  have ic : (c : Int) ≤ 31 := by omega
  have id' : (d : Int) ≤ 4095 := by omega
  have icc : (cc : Int) < 128 := by omega
  have if3 : (f3 : Int) < 8 := by omega
  have if7 : (f7 : Int) < 1024 := by omega
  have inn : (n : Int) < 4294967296 := by omega
  go_enter Tryz.func16, Tryz.ntmps16
  go_wp2_with fail
  refine (HO.out _).mono ?_
  rintro e w1 ⟨rfl, hb1⟩
  have S1 : Hid (BoxIn w w1 (instrC (o : Nat) (a : Nat) (b : Nat) (c : Nat) imm (d : Nat) false false)) := S0.out.step hb1
  obtain ⟨q0, q1, q2, q3, q4, q5, q6, q7⟩ := box8_facts S1.out.2
  have l1 : w.heap.size < w1.heap.size := (Array.getElem?_eq_some_iff.1 S1.out.2).1
  have X1 : Hid _ := heap_alloc_new w1 (.cells #[.string s, .int .i64 4, .int .i64 (cc : Nat), .int .i64 (f3 : Nat), .int .i64 (f7 : Nat)] 72)
  have S2 : Hid (BoxIn w (w1.alloc (.cells #[.string s, .int .i64 4, .int .i64 (cc : Nat), .int .i64 (f3 : Nat), .int .i64 (f7 : Nat)] 72)) (instrC (o : Nat) (a : Nat) (b : Nat) (c : Nat) imm (d : Nat) false false)) := S1.out.alloc _
  clear hb1
  go_wp2_with fail
  refine (in2b 4 1 2 _ _ (by simp) false (by decide) ).mono ?_
  rintro e w2 ⟨rfl, hb2⟩
  have S3 : Hid (BoxIn w w2 (instrC (o : Nat) (a : Nat) (b : Nat) (c : Nat) imm (d : Nat) false false)) := S2.out.step hb2
  have X2 : Hid _ := below_box X1.out hb2
  have l2 : w1.heap.size < w2.heap.size := (Array.getElem?_eq_some_iff.1 X2.out).1
  obtain ⟨r0, r1, r2, r3, r4, r5, r6, r7⟩ := box8_facts S3.out.2
  obtain ⟨z0, z1, z2, z3, z4⟩ := box5_facts X2.out
  clear hb2 X1 S2 S1 S0 q0 q1 q2 q3 q4 q5 q6 q7
  go_wp2_with (first | (go_at_call 47; refine (HI.out _).mono ?_; rintro e w' ⟨rfl, hw⟩; rw [hw]; clear hw))
  refine (HN.out _).mono ?_
  rintro e w3 ⟨rfl, hb3⟩
  have S4 : Hid (BoxIn w w3 (instrC (o : Nat) (a : Nat) (b : Nat) (c : Nat) imm (d : Nat) false false)) := S3.out.step hb3
  have X3 : Hid _ := below_box X2.out hb3
  obtain ⟨q0, q1, q2, q3, q4, q5, q6, q7⟩ := box8_facts S4.out.2
  obtain ⟨y0, y1, y2, y3, y4⟩ := box5_facts X3.out
  clear hb3
  go_wp2
  go_ret
  exact ⟨ret64 (by have e := fin_word_4 cc a b c d f3 n f7; omega), S4.out.1⟩
end Go.Proofs.YtooaafbdjnlmfaaGreatDoor

namespace Go.Proofs.YtooaafbdjnlmfaaGreatDoor
open Go.RowKit
set_option linter.unusedVariables false
set_option linter.unusedSimpArgs false
theorem fin_word_5 (cc a b c d f3 n f7 : Nat) : dSum 5 cc a b c d f3 n f7 false false = cc + a * 128 + b * 32768 + c * 1048576 + d * 1048576 + f3 * 4096 + n + 0 := by
  unfold dSum
  rw [(add_order _).1, dA3_no 5 _ (by decide), dA7_d 5 _ (by decide) (by decide) (by decide)]
set_option maxRecDepth 100000 in
set_option maxHeartbeats 1000000 in
theorem word_5 (o a b c d cc f3 f7 n : Nat) (imm : Int) (s : ByteArray) (ha : a ≤ 31) (hb : b ≤ 31) (hc : c ≤ 31) (hd : d ≤ 4095) (hcc : cc < 128) (hf3 : f3 < 8) (hf7 : f7 < 1024) (hn : n < 4294967296) (w : World)
    (hO : ∀ w, Calls Tryz.prog 45 #[.int .i64 (o : Nat)] w fun e w' => e = .returned (.agg #[.string s, .int .i64 5, .int .i64 (cc : Nat), .int .i64 (f3 : Nat), .int .i64 (f7 : Nat)]) ∧ Below w.heap.size w w')
    (hN : ∀ w, Calls Tryz.prog 48 #[.int .i64 5, .int .i64 imm] w fun e w' => e = .returned (.int .i64 (n : Nat)) ∧ Below w.heap.size w w')
    : Calls Tryz.prog 16 #[.agg (instrC (o : Nat) (a : Nat) (b : Nat) (c : Nat) imm (d : Nat) false false)] w fun e w' => e = .returned (.int .i64 (dSum 5 cc a b c d f3 n f7 false false : Nat)) ∧ Below w.heap.size w w' := by
  have S0 : Hid (BoxIn w (w.alloc (.cells (instrC (o : Nat) (a : Nat) (b : Nat) (c : Nat) imm (d : Nat) false false) 23)) (instrC (o : Nat) (a : Nat) (b : Nat) (c : Nat) imm (d : Nat) false false)) := BoxIn.new w (instrC (o : Nat) (a : Nat) (b : Nat) (c : Nat) imm (d : Nat) false false)
  have HO : Hid _ := hO
  have HN : Hid _ := hN
  clear hN
  obtain ⟨lo, hi, st, hI⟩ := dimm_ok 5 (by decide) true (by decide) 5 rfl
  have HI : Hid _ := hI
  clear hI
  clear hO
  have ia : (a : Int) ≤ 31 := by omega
  have ib : (b : Int) ≤ 31 := by omega
  have ic : (c : Int) ≤ 31 := by omega
  have id' : (d : Int) ≤ 4095 := by omega
  have icc : (cc : Int) < 128 := by omega
  have if3 : (f3 : Int) < 8 := by omega
  have if7 : (f7 : Int) < 1024 := by omega
  have inn : (n : Int) < 4294967296 := by omega
  go_enter Tryz.func16, Tryz.ntmps16
  go_wp2_with fail
  refine (HO.out _).mono ?_
  rintro e w1 ⟨rfl, hb1⟩
  have S1 : Hid (BoxIn w w1 (instrC (o : Nat) (a : Nat) (b : Nat) (c : Nat) imm (d : Nat) false false)) := S0.out.step hb1
  obtain ⟨q0, q1, q2, q3, q4, q5, q6, q7⟩ := box8_facts S1.out.2
  have l1 : w.heap.size < w1.heap.size := (Array.getElem?_eq_some_iff.1 S1.out.2).1
  have X1 : Hid _ := heap_alloc_new w1 (.cells #[.string s, .int .i64 5, .int .i64 (cc : Nat), .int .i64 (f3 : Nat), .int .i64 (f7 : Nat)] 72)
  have S2 : Hid (BoxIn w (w1.alloc (.cells #[.string s, .int .i64 5, .int .i64 (cc : Nat), .int .i64 (f3 : Nat), .int .i64 (f7 : Nat)] 72)) (instrC (o : Nat) (a : Nat) (b : Nat) (c : Nat) imm (d : Nat) false false)) := S1.out.alloc _
  clear hb1
  go_wp2_with fail
  refine (in2b 5 1 2 _ _ (by simp) false (by decide) ).mono ?_
  rintro e w2 ⟨rfl, hb2⟩
  have S3 : Hid (BoxIn w w2 (instrC (o : Nat) (a : Nat) (b : Nat) (c : Nat) imm (d : Nat) false false)) := S2.out.step hb2
  have X2 : Hid _ := below_box X1.out hb2
  have l2 : w1.heap.size < w2.heap.size := (Array.getElem?_eq_some_iff.1 X2.out).1
  obtain ⟨r0, r1, r2, r3, r4, r5, r6, r7⟩ := box8_facts S3.out.2
  obtain ⟨z0, z1, z2, z3, z4⟩ := box5_facts X2.out
  clear hb2 X1 S2 S1 S0 q0 q1 q2 q3 q4 q5 q6 q7
  go_wp2_with (first | (go_at_call 47; refine (HI.out _).mono ?_; rintro e w' ⟨rfl, hw⟩; rw [hw]; clear hw))
  refine (HN.out _).mono ?_
  rintro e w3 ⟨rfl, hb3⟩
  have S4 : Hid (BoxIn w w3 (instrC (o : Nat) (a : Nat) (b : Nat) (c : Nat) imm (d : Nat) false false)) := S3.out.step hb3
  have X3 : Hid _ := below_box X2.out hb3
  obtain ⟨q0, q1, q2, q3, q4, q5, q6, q7⟩ := box8_facts S4.out.2
  obtain ⟨y0, y1, y2, y3, y4⟩ := box5_facts X3.out
  clear hb3
  go_wp2
  go_ret
  exact ⟨ret64 (by have e := fin_word_5 cc a b c d f3 n f7; omega), S4.out.1⟩
theorem fin_word_6 (cc a b c d f3 n f7 : Nat) : dSum 6 cc a b c d f3 n f7 false false = cc + a * 128 + b * 32768 + c * 1048576 + d * 1048576 + f3 * 4096 + n + 0 := by
  unfold dSum
  rw [(add_order _).1, dA3_no 6 _ (by decide), dA7_d 6 _ (by decide) (by decide) (by decide)]
set_option maxRecDepth 100000 in
set_option maxHeartbeats 1000000 in
theorem word_6 (o a b c d cc f3 f7 n : Nat) (imm : Int) (s : ByteArray) (ha : a ≤ 31) (hb : b ≤ 31) (hc : c ≤ 31) (hd : d ≤ 4095) (hcc : cc < 128) (hf3 : f3 < 8) (hf7 : f7 < 1024) (hn : n < 4294967296) (w : World)
    (hO : ∀ w, Calls Tryz.prog 45 #[.int .i64 (o : Nat)] w fun e w' => e = .returned (.agg #[.string s, .int .i64 6, .int .i64 (cc : Nat), .int .i64 (f3 : Nat), .int .i64 (f7 : Nat)]) ∧ Below w.heap.size w w')
    (hN : ∀ w, Calls Tryz.prog 48 #[.int .i64 6, .int .i64 imm] w fun e w' => e = .returned (.int .i64 (n : Nat)) ∧ Below w.heap.size w w')
    : Calls Tryz.prog 16 #[.agg (instrC (o : Nat) (a : Nat) (b : Nat) (c : Nat) imm (d : Nat) false false)] w fun e w' => e = .returned (.int .i64 (dSum 6 cc a b c d f3 n f7 false false : Nat)) ∧ Below w.heap.size w w' := by
  have S0 : Hid (BoxIn w (w.alloc (.cells (instrC (o : Nat) (a : Nat) (b : Nat) (c : Nat) imm (d : Nat) false false) 23)) (instrC (o : Nat) (a : Nat) (b : Nat) (c : Nat) imm (d : Nat) false false)) := BoxIn.new w (instrC (o : Nat) (a : Nat) (b : Nat) (c : Nat) imm (d : Nat) false false)
  have HO : Hid _ := hO
  have HN : Hid _ := hN
  clear hN
  obtain ⟨lo, hi, st, hI⟩ := dimm_ok 6 (by decide) true (by decide) 6 rfl
  have HI : Hid _ := hI
  clear hI
  clear hO
  have ia : (a : Int) ≤ 31 := by omega
  have ib : (b : Int) ≤ 31 := by omega
  have ic : (c : Int) ≤ 31 := by omega
  have id' : (d : Int) ≤ 4095 := by omega
  have icc : (cc : Int) < 128 := by omega
  have if3 : (f3 : Int) < 8 := by omega
  have if7 : (f7 : Int) < 1024 := by omega
  have inn : (n : Int) < 4294967296 := by omega
  go_enter Tryz.func16, Tryz.ntmps16
  go_wp2_with fail
  refine (HO.out _).mono ?_
  rintro e w1 ⟨rfl, hb1⟩
  have S1 : Hid (BoxIn w w1 (instrC (o : Nat) (a : Nat) (b : Nat) (c : Nat) imm (d : Nat) false false)) := S0.out.step hb1
  obtain ⟨q0, q1, q2, q3, q4, q5, q6, q7⟩ := box8_facts S1.out.2
  have l1 : w.heap.size < w1.heap.size := (Array.getElem?_eq_some_iff.1 S1.out.2).1
  have X1 : Hid _ := heap_alloc_new w1 (.cells #[.string s, .int .i64 6, .int .i64 (cc : Nat), .int .i64 (f3 : Nat), .int .i64 (f7 : Nat)] 72)
  have S2 : Hid (BoxIn w (w1.alloc (.cells #[.string s, .int .i64 6, .int .i64 (cc : Nat), .int .i64 (f3 : Nat), .int .i64 (f7 : Nat)] 72)) (instrC (o : Nat) (a : Nat) (b : Nat) (c : Nat) imm (d : Nat) false false)) := S1.out.alloc _
  clear hb1
  go_wp2_with fail
  refine (in2b 6 1 2 _ _ (by simp) false (by decide) ).mono ?_
  rintro e w2 ⟨rfl, hb2⟩
  have S3 : Hid (BoxIn w w2 (instrC (o : Nat) (a : Nat) (b : Nat) (c : Nat) imm (d : Nat) false false)) := S2.out.step hb2
  have X2 : Hid _ := below_box X1.out hb2
  have l2 : w1.heap.size < w2.heap.size := (Array.getElem?_eq_some_iff.1 X2.out).1
  obtain ⟨r0, r1, r2, r3, r4, r5, r6, r7⟩ := box8_facts S3.out.2
  obtain ⟨z0, z1, z2, z3, z4⟩ := box5_facts X2.out
  clear hb2 X1 S2 S1 S0 q0 q1 q2 q3 q4 q5 q6 q7
  go_wp2_with (first | (go_at_call 47; refine (HI.out _).mono ?_; rintro e w' ⟨rfl, hw⟩; rw [hw]; clear hw))
  refine (HN.out _).mono ?_
  rintro e w3 ⟨rfl, hb3⟩
  have S4 : Hid (BoxIn w w3 (instrC (o : Nat) (a : Nat) (b : Nat) (c : Nat) imm (d : Nat) false false)) := S3.out.step hb3
  have X3 : Hid _ := below_box X2.out hb3
  obtain ⟨q0, q1, q2, q3, q4, q5, q6, q7⟩ := box8_facts S4.out.2
  obtain ⟨y0, y1, y2, y3, y4⟩ := box5_facts X3.out
  clear hb3
  go_wp2
  go_ret
  exact ⟨ret64 (by have e := fin_word_6 cc a b c d f3 n f7; omega), S4.out.1⟩
theorem fin_word_7 (cc a b c d f3 n f7 : Nat) : dSum 7 cc a b c d f3 n f7 false false = cc + a * 128 + b * 32768 + c * 1048576 + d * 1048576 + f3 * 4096 + n + f7 * 33554432 := by
  unfold dSum
  rw [(add_order _).1, dA3_no 7 _ (by decide), dA7_a 7 _ (by decide)]
set_option maxRecDepth 100000 in
set_option maxHeartbeats 1000000 in
theorem word_7 (o a b c d cc f3 f7 n : Nat) (imm : Int) (s : ByteArray) (ha : a ≤ 31) (hb : b ≤ 31) (hc : c ≤ 31) (hd : d ≤ 4095) (hcc : cc < 128) (hf3 : f3 < 8) (hf7 : f7 < 1024) (hn : n < 4294967296) (w : World)
    (hO : ∀ w, Calls Tryz.prog 45 #[.int .i64 (o : Nat)] w fun e w' => e = .returned (.agg #[.string s, .int .i64 7, .int .i64 (cc : Nat), .int .i64 (f3 : Nat), .int .i64 (f7 : Nat)]) ∧ Below w.heap.size w w')
    (hN : ∀ w, Calls Tryz.prog 48 #[.int .i64 7, .int .i64 imm] w fun e w' => e = .returned (.int .i64 (n : Nat)) ∧ Below w.heap.size w w')
    : Calls Tryz.prog 16 #[.agg (instrC (o : Nat) (a : Nat) (b : Nat) (c : Nat) imm (d : Nat) false false)] w fun e w' => e = .returned (.int .i64 (dSum 7 cc a b c d f3 n f7 false false : Nat)) ∧ Below w.heap.size w w' := by
  have S0 : Hid (BoxIn w (w.alloc (.cells (instrC (o : Nat) (a : Nat) (b : Nat) (c : Nat) imm (d : Nat) false false) 23)) (instrC (o : Nat) (a : Nat) (b : Nat) (c : Nat) imm (d : Nat) false false)) := BoxIn.new w (instrC (o : Nat) (a : Nat) (b : Nat) (c : Nat) imm (d : Nat) false false)
  have HO : Hid _ := hO
  have HN : Hid _ := hN
  clear hN
  obtain ⟨lo, hi, st, hI⟩ := dimm_ok 7 (by decide) true (by decide) 7 rfl
  have HI : Hid _ := hI
  clear hI
  clear hO
  have ia : (a : Int) ≤ 31 := by omega
  have ib : (b : Int) ≤ 31 := by omega
  have ic : (c : Int) ≤ 31 := by omega
  have id' : (d : Int) ≤ 4095 := by omega
  have icc : (cc : Int) < 128 := by omega
  have if3 : (f3 : Int) < 8 := by omega
  have if7 : (f7 : Int) < 1024 := by omega
  have inn : (n : Int) < 4294967296 := by omega
  go_enter Tryz.func16, Tryz.ntmps16
  go_wp2_with fail
  refine (HO.out _).mono ?_
  rintro e w1 ⟨rfl, hb1⟩
  have S1 : Hid (BoxIn w w1 (instrC (o : Nat) (a : Nat) (b : Nat) (c : Nat) imm (d : Nat) false false)) := S0.out.step hb1
  obtain ⟨q0, q1, q2, q3, q4, q5, q6, q7⟩ := box8_facts S1.out.2
  have l1 : w.heap.size < w1.heap.size := (Array.getElem?_eq_some_iff.1 S1.out.2).1
  have X1 : Hid _ := heap_alloc_new w1 (.cells #[.string s, .int .i64 7, .int .i64 (cc : Nat), .int .i64 (f3 : Nat), .int .i64 (f7 : Nat)] 72)
  have S2 : Hid (BoxIn w (w1.alloc (.cells #[.string s, .int .i64 7, .int .i64 (cc : Nat), .int .i64 (f3 : Nat), .int .i64 (f7 : Nat)] 72)) (instrC (o : Nat) (a : Nat) (b : Nat) (c : Nat) imm (d : Nat) false false)) := S1.out.alloc _
  clear hb1
  go_wp2_with fail
  refine (in2b 7 1 2 _ _ (by simp) false (by decide) ).mono ?_
  rintro e w2 ⟨rfl, hb2⟩
  have S3 : Hid (BoxIn w w2 (instrC (o : Nat) (a : Nat) (b : Nat) (c : Nat) imm (d : Nat) false false)) := S2.out.step hb2
  have X2 : Hid _ := below_box X1.out hb2
  have l2 : w1.heap.size < w2.heap.size := (Array.getElem?_eq_some_iff.1 X2.out).1
  obtain ⟨r0, r1, r2, r3, r4, r5, r6, r7⟩ := box8_facts S3.out.2
  obtain ⟨z0, z1, z2, z3, z4⟩ := box5_facts X2.out
  clear hb2 X1 S2 S1 S0 q0 q1 q2 q3 q4 q5 q6 q7
  go_wp2_with (first | (go_at_call 47; refine (HI.out _).mono ?_; rintro e w' ⟨rfl, hw⟩; rw [hw]; clear hw))
  refine (HN.out _).mono ?_
  rintro e w3 ⟨rfl, hb3⟩
  have S4 : Hid (BoxIn w w3 (instrC (o : Nat) (a : Nat) (b : Nat) (c : Nat) imm (d : Nat) false false)) := S3.out.step hb3
  have X3 : Hid _ := below_box X2.out hb3
  obtain ⟨q0, q1, q2, q3, q4, q5, q6, q7⟩ := box8_facts S4.out.2
  obtain ⟨y0, y1, y2, y3, y4⟩ := box5_facts X3.out
  clear hb3
  go_wp2
  go_ret
  exact ⟨ret64 (by have e := fin_word_7 cc a b c d f3 n f7; omega), S4.out.1⟩
theorem fin_word_8 (cc a b c d f3 n f7 : Nat) : dSum 8 cc a b c d f3 n f7 false false = cc + a * 128 + b * 32768 + c * 1048576 + d * 1048576 + f3 * 4096 + n + f7 * 33554432 := by
  unfold dSum
  rw [(add_order _).1, dA3_no 8 _ (by decide), dA7_a 8 _ (by decide)]
set_option maxRecDepth 100000 in
set_option maxHeartbeats 1000000 in
theorem word_8 (o a b c d cc f3 f7 n : Nat) (imm : Int) (s : ByteArray) (ha : a ≤ 31) (hb : b ≤ 31) (hc : c ≤ 31) (hd : d ≤ 4095) (hcc : cc < 128) (hf3 : f3 < 8) (hf7 : f7 < 1024) (hn : n < 4294967296) (w : World)
    (hO : ∀ w, Calls Tryz.prog 45 #[.int .i64 (o : Nat)] w fun e w' => e = .returned (.agg #[.string s, .int .i64 8, .int .i64 (cc : Nat), .int .i64 (f3 : Nat), .int .i64 (f7 : Nat)]) ∧ Below w.heap.size w w')
    (hN : ∀ w, Calls Tryz.prog 48 #[.int .i64 8, .int .i64 imm] w fun e w' => e = .returned (.int .i64 (n : Nat)) ∧ Below w.heap.size w w')
    : Calls Tryz.prog 16 #[.agg (instrC (o : Nat) (a : Nat) (b : Nat) (c : Nat) imm (d : Nat) false false)] w fun e w' => e = .returned (.int .i64 (dSum 8 cc a b c d f3 n f7 false false : Nat)) ∧ Below w.heap.size w w' := by
  have S0 : Hid (BoxIn w (w.alloc (.cells (instrC (o : Nat) (a : Nat) (b : Nat) (c : Nat) imm (d : Nat) false false) 23)) (instrC (o : Nat) (a : Nat) (b : Nat) (c : Nat) imm (d : Nat) false false)) := BoxIn.new w (instrC (o : Nat) (a : Nat) (b : Nat) (c : Nat) imm (d : Nat) false false)
  have HO : Hid _ := hO
  have HN : Hid _ := hN
  clear hN
  obtain ⟨lo, hi, st, hI⟩ := dimm_ok 8 (by decide) true (by decide) 8 rfl
  have HI : Hid _ := hI
  clear hI
  clear hO
  have ia : (a : Int) ≤ 31 := by omega
  have ib : (b : Int) ≤ 31 := by omega
  have ic : (c : Int) ≤ 31 := by omega
  have id' : (d : Int) ≤ 4095 := by omega
  have icc : (cc : Int) < 128 := by omega
  have if3 : (f3 : Int) < 8 := by omega
  have if7 : (f7 : Int) < 1024 := by omega
  have inn : (n : Int) < 4294967296 := by omega
  go_enter Tryz.func16, Tryz.ntmps16
  go_wp2_with fail
  refine (HO.out _).mono ?_
  rintro e w1 ⟨rfl, hb1⟩
  have S1 : Hid (BoxIn w w1 (instrC (o : Nat) (a : Nat) (b : Nat) (c : Nat) imm (d : Nat) false false)) := S0.out.step hb1
  obtain ⟨q0, q1, q2, q3, q4, q5, q6, q7⟩ := box8_facts S1.out.2
  have l1 : w.heap.size < w1.heap.size := (Array.getElem?_eq_some_iff.1 S1.out.2).1
  have X1 : Hid _ := heap_alloc_new w1 (.cells #[.string s, .int .i64 8, .int .i64 (cc : Nat), .int .i64 (f3 : Nat), .int .i64 (f7 : Nat)] 72)
  have S2 : Hid (BoxIn w (w1.alloc (.cells #[.string s, .int .i64 8, .int .i64 (cc : Nat), .int .i64 (f3 : Nat), .int .i64 (f7 : Nat)] 72)) (instrC (o : Nat) (a : Nat) (b : Nat) (c : Nat) imm (d : Nat) false false)) := S1.out.alloc _
  clear hb1
  go_wp2_with fail
  refine (in2b 8 1 2 _ _ (by simp) false (by decide) ).mono ?_
  rintro e w2 ⟨rfl, hb2⟩
  have S3 : Hid (BoxIn w w2 (instrC (o : Nat) (a : Nat) (b : Nat) (c : Nat) imm (d : Nat) false false)) := S2.out.step hb2
  have X2 : Hid _ := below_box X1.out hb2
  have l2 : w1.heap.size < w2.heap.size := (Array.getElem?_eq_some_iff.1 X2.out).1
  obtain ⟨r0, r1, r2, r3, r4, r5, r6, r7⟩ := box8_facts S3.out.2
  obtain ⟨z0, z1, z2, z3, z4⟩ := box5_facts X2.out
  clear hb2 X1 S2 S1 S0 q0 q1 q2 q3 q4 q5 q6 q7
  go_wp2_with (first | (go_at_call 47; refine (HI.out _).mono ?_; rintro e w' ⟨rfl, hw⟩; rw [hw]; clear hw))
  refine (HN.out _).mono ?_
  rintro e w3 ⟨rfl, hb3⟩
  have S4 : Hid (BoxIn w w3 (instrC (o : Nat) (a : Nat) (b : Nat) (c : Nat) imm (d : Nat) false false)) := S3.out.step hb3
  have X3 : Hid _ := below_box X2.out hb3
  obtain ⟨q0, q1, q2, q3, q4, q5, q6, q7⟩ := box8_facts S4.out.2
  obtain ⟨y0, y1, y2, y3, y4⟩ := box5_facts X3.out
  clear hb3
  go_wp2
  go_ret
  exact ⟨ret64 (by have e := fin_word_8 cc a b c d f3 n f7; omega), S4.out.1⟩
end Go.Proofs.YtooaafbdjnlmfaaGreatDoor

namespace Go.Proofs.YtooaafbdjnlmfaaGreatDoor
open Go.RowKit
set_option linter.unusedVariables false
set_option linter.unusedSimpArgs false
theorem fin_word_9 (cc a b c d f3 n f7 : Nat) : dSum 9 cc a b c d f3 n f7 false false = cc + a * 128 + b * 32768 + c * 1048576 + d * 1048576 + f3 * 4096 + n + f7 * 33554432 := by
  unfold dSum
  rw [(add_order _).1, dA3_no 9 _ (by decide), dA7_a 9 _ (by decide)]
set_option maxRecDepth 100000 in
set_option maxHeartbeats 1000000 in
theorem word_9 (o a b c d cc f3 f7 n : Nat) (imm : Int) (s : ByteArray) (ha : a ≤ 31) (hb : b ≤ 31) (hc : c ≤ 31) (hd : d ≤ 4095) (hcc : cc < 128) (hf3 : f3 < 8) (hf7 : f7 < 1024) (hn : n < 4294967296) (w : World)
    (hO : ∀ w, Calls Tryz.prog 45 #[.int .i64 (o : Nat)] w fun e w' => e = .returned (.agg #[.string s, .int .i64 9, .int .i64 (cc : Nat), .int .i64 (f3 : Nat), .int .i64 (f7 : Nat)]) ∧ Below w.heap.size w w')
    : Calls Tryz.prog 16 #[.agg (instrC (o : Nat) (a : Nat) (b : Nat) (c : Nat) imm (d : Nat) false false)] w fun e w' => e = .returned (.int .i64 (dSum 9 cc a b c d f3 0 f7 false false : Nat)) ∧ Below w.heap.size w w' := by
  have S0 : Hid (BoxIn w (w.alloc (.cells (instrC (o : Nat) (a : Nat) (b : Nat) (c : Nat) imm (d : Nat) false false) 23)) (instrC (o : Nat) (a : Nat) (b : Nat) (c : Nat) imm (d : Nat) false false)) := BoxIn.new w (instrC (o : Nat) (a : Nat) (b : Nat) (c : Nat) imm (d : Nat) false false)
  have HO : Hid _ := hO
  obtain ⟨lo, hi, st, hI⟩ := dimm_ok 9 (by decide) false (by decide) 9 rfl
  have HI : Hid _ := hI
  clear hI
  clear hO
  have ia : (a : Int) ≤ 31 := by omega
  have ib : (b : Int) ≤ 31 := by omega
  have ic : (c : Int) ≤ 31 := by omega
  have id' : (d : Int) ≤ 4095 := by omega
  have icc : (cc : Int) < 128 := by omega
  have if3 : (f3 : Int) < 8 := by omega
  have if7 : (f7 : Int) < 1024 := by omega
  have inn : (n : Int) < 4294967296 := by omega
  go_enter Tryz.func16, Tryz.ntmps16
  go_wp2_with fail
  refine (HO.out _).mono ?_
  rintro e w1 ⟨rfl, hb1⟩
  have S1 : Hid (BoxIn w w1 (instrC (o : Nat) (a : Nat) (b : Nat) (c : Nat) imm (d : Nat) false false)) := S0.out.step hb1
  obtain ⟨q0, q1, q2, q3, q4, q5, q6, q7⟩ := box8_facts S1.out.2
  have l1 : w.heap.size < w1.heap.size := (Array.getElem?_eq_some_iff.1 S1.out.2).1
  have X1 : Hid _ := heap_alloc_new w1 (.cells #[.string s, .int .i64 9, .int .i64 (cc : Nat), .int .i64 (f3 : Nat), .int .i64 (f7 : Nat)] 72)
  have S2 : Hid (BoxIn w (w1.alloc (.cells #[.string s, .int .i64 9, .int .i64 (cc : Nat), .int .i64 (f3 : Nat), .int .i64 (f7 : Nat)] 72)) (instrC (o : Nat) (a : Nat) (b : Nat) (c : Nat) imm (d : Nat) false false)) := S1.out.alloc _
  clear hb1
  go_wp2_with fail
  refine (in2b 9 1 2 _ _ (by simp) false (by decide) ).mono ?_
  rintro e w2 ⟨rfl, hb2⟩
  have S3 : Hid (BoxIn w w2 (instrC (o : Nat) (a : Nat) (b : Nat) (c : Nat) imm (d : Nat) false false)) := S2.out.step hb2
  have X2 : Hid _ := below_box X1.out hb2
  have l2 : w1.heap.size < w2.heap.size := (Array.getElem?_eq_some_iff.1 X2.out).1
  obtain ⟨r0, r1, r2, r3, r4, r5, r6, r7⟩ := box8_facts S3.out.2
  obtain ⟨z0, z1, z2, z3, z4⟩ := box5_facts X2.out
  clear hb2 X1 S2 S1 S0 q0 q1 q2 q3 q4 q5 q6 q7
  go_wp2_with (first | (go_at_call 47; refine (HI.out _).mono ?_; rintro e w' ⟨rfl, hw⟩; rw [hw]; clear hw))
  go_ret
  exact ⟨ret64 (by have e := fin_word_9 cc a b c d f3 0 f7; omega), S3.out.1⟩
theorem fin_word_10 (cc a b c d f3 n f7 : Nat) : dSum 10 cc a b c d f3 n f7 false false = cc + a * 128 + b * 32768 + c * 1048576 + d * 1048576 + f3 * 4096 + n + 0 := by
  unfold dSum
  rw [(add_order _).1, dA3_no 10 _ (by decide), dA7_d 10 _ (by decide) (by decide) (by decide)]
set_option maxRecDepth 100000 in
set_option maxHeartbeats 1000000 in
theorem word_10 (o a b c d cc f3 f7 n : Nat) (imm : Int) (s : ByteArray) (ha : a ≤ 31) (hb : b ≤ 31) (hc : c ≤ 31) (hd : d ≤ 4095) (hcc : cc < 128) (hf3 : f3 < 8) (hf7 : f7 < 1024) (hn : n < 4294967296) (w : World)
    (hO : ∀ w, Calls Tryz.prog 45 #[.int .i64 (o : Nat)] w fun e w' => e = .returned (.agg #[.string s, .int .i64 10, .int .i64 (cc : Nat), .int .i64 (f3 : Nat), .int .i64 (f7 : Nat)]) ∧ Below w.heap.size w w')
    (hN : ∀ w, Calls Tryz.prog 48 #[.int .i64 10, .int .i64 imm] w fun e w' => e = .returned (.int .i64 (n : Nat)) ∧ Below w.heap.size w w')
    : Calls Tryz.prog 16 #[.agg (instrC (o : Nat) (a : Nat) (b : Nat) (c : Nat) imm (d : Nat) false false)] w fun e w' => e = .returned (.int .i64 (dSum 10 cc a b c d f3 n f7 false false : Nat)) ∧ Below w.heap.size w w' := by
  have S0 : Hid (BoxIn w (w.alloc (.cells (instrC (o : Nat) (a : Nat) (b : Nat) (c : Nat) imm (d : Nat) false false) 23)) (instrC (o : Nat) (a : Nat) (b : Nat) (c : Nat) imm (d : Nat) false false)) := BoxIn.new w (instrC (o : Nat) (a : Nat) (b : Nat) (c : Nat) imm (d : Nat) false false)
  have HO : Hid _ := hO
  have HN : Hid _ := hN
  clear hN
  obtain ⟨lo, hi, st, hI⟩ := dimm_ok 10 (by decide) true (by decide) 10 rfl
  have HI : Hid _ := hI
  clear hI
  clear hO
  have ia : (a : Int) ≤ 31 := by omega
  have ib : (b : Int) ≤ 31 := by omega
  have ic : (c : Int) ≤ 31 := by omega
  have id' : (d : Int) ≤ 4095 := by omega
  have icc : (cc : Int) < 128 := by omega
  have if3 : (f3 : Int) < 8 := by omega
  have if7 : (f7 : Int) < 1024 := by omega
  have inn : (n : Int) < 4294967296 := by omega
  go_enter Tryz.func16, Tryz.ntmps16
  go_wp2_with fail
  refine (HO.out _).mono ?_
  rintro e w1 ⟨rfl, hb1⟩
  have S1 : Hid (BoxIn w w1 (instrC (o : Nat) (a : Nat) (b : Nat) (c : Nat) imm (d : Nat) false false)) := S0.out.step hb1
  obtain ⟨q0, q1, q2, q3, q4, q5, q6, q7⟩ := box8_facts S1.out.2
  have l1 : w.heap.size < w1.heap.size := (Array.getElem?_eq_some_iff.1 S1.out.2).1
  have X1 : Hid _ := heap_alloc_new w1 (.cells #[.string s, .int .i64 10, .int .i64 (cc : Nat), .int .i64 (f3 : Nat), .int .i64 (f7 : Nat)] 72)
  have S2 : Hid (BoxIn w (w1.alloc (.cells #[.string s, .int .i64 10, .int .i64 (cc : Nat), .int .i64 (f3 : Nat), .int .i64 (f7 : Nat)] 72)) (instrC (o : Nat) (a : Nat) (b : Nat) (c : Nat) imm (d : Nat) false false)) := S1.out.alloc _
  clear hb1
  go_wp2_with fail
  refine (in2b 10 1 2 _ _ (by simp) false (by decide) ).mono ?_
  rintro e w2 ⟨rfl, hb2⟩
  have S3 : Hid (BoxIn w w2 (instrC (o : Nat) (a : Nat) (b : Nat) (c : Nat) imm (d : Nat) false false)) := S2.out.step hb2
  have X2 : Hid _ := below_box X1.out hb2
  have l2 : w1.heap.size < w2.heap.size := (Array.getElem?_eq_some_iff.1 X2.out).1
  obtain ⟨r0, r1, r2, r3, r4, r5, r6, r7⟩ := box8_facts S3.out.2
  obtain ⟨z0, z1, z2, z3, z4⟩ := box5_facts X2.out
  clear hb2 X1 S2 S1 S0 q0 q1 q2 q3 q4 q5 q6 q7
  go_wp2_with (first | (go_at_call 47; refine (HI.out _).mono ?_; rintro e w' ⟨rfl, hw⟩; rw [hw]; clear hw))
  refine (HN.out _).mono ?_
  rintro e w3 ⟨rfl, hb3⟩
  have S4 : Hid (BoxIn w w3 (instrC (o : Nat) (a : Nat) (b : Nat) (c : Nat) imm (d : Nat) false false)) := S3.out.step hb3
  have X3 : Hid _ := below_box X2.out hb3
  obtain ⟨q0, q1, q2, q3, q4, q5, q6, q7⟩ := box8_facts S4.out.2
  obtain ⟨y0, y1, y2, y3, y4⟩ := box5_facts X3.out
  clear hb3
  go_wp2
  go_ret
  exact ⟨ret64 (by have e := fin_word_10 cc a b c d f3 n f7; omega), S4.out.1⟩
theorem fin_word_11 (cc a b c d f3 n f7 : Nat) : dSum 11 cc a b c d f3 n f7 false false = cc + a * 128 + b * 32768 + c * 1048576 + d * 1048576 + f3 * 4096 + n + f7 * 1048576 := by
  unfold dSum
  rw [(add_order _).1, dA3_no 11 _ (by decide), dA7_b]
set_option maxRecDepth 100000 in
set_option maxHeartbeats 1000000 in
theorem word_11 (o a b c d cc f3 f7 n : Nat) (imm : Int) (s : ByteArray) (ha : a ≤ 31) (hb : b ≤ 31) (hc : c ≤ 31) (hd : d ≤ 4095) (hcc : cc < 128) (hf3 : f3 < 8) (hf7 : f7 < 1024) (hn : n < 4294967296) (w : World)
    (hO : ∀ w, Calls Tryz.prog 45 #[.int .i64 (o : Nat)] w fun e w' => e = .returned (.agg #[.string s, .int .i64 11, .int .i64 (cc : Nat), .int .i64 (f3 : Nat), .int .i64 (f7 : Nat)]) ∧ Below w.heap.size w w')
    : Calls Tryz.prog 16 #[.agg (instrC (o : Nat) (a : Nat) (b : Nat) (c : Nat) imm (d : Nat) false false)] w fun e w' => e = .returned (.int .i64 (dSum 11 cc a b c d f3 0 f7 false false : Nat)) ∧ Below w.heap.size w w' := by
  have S0 : Hid (BoxIn w (w.alloc (.cells (instrC (o : Nat) (a : Nat) (b : Nat) (c : Nat) imm (d : Nat) false false) 23)) (instrC (o : Nat) (a : Nat) (b : Nat) (c : Nat) imm (d : Nat) false false)) := BoxIn.new w (instrC (o : Nat) (a : Nat) (b : Nat) (c : Nat) imm (d : Nat) false false)
  have HO : Hid _ := hO
  obtain ⟨lo, hi, st, hI⟩ := dimm_ok 11 (by decide) false (by decide) 11 rfl
  have HI : Hid _ := hI
  clear hI
  clear hO
  have ia : (a : Int) ≤ 31 := by omega
  have ib : (b : Int) ≤ 31 := by omega
  have ic : (c : Int) ≤ 31 := by omega
  have id' : (d : Int) ≤ 4095 := by omega
  have icc : (cc : Int) < 128 := by omega
  have if3 : (f3 : Int) < 8 := by omega
  have if7 : (f7 : Int) < 1024 := by omega
  have inn : (n : Int) < 4294967296 := by omega
  go_enter Tryz.func16, Tryz.ntmps16
  go_wp2_with fail
  refine (HO.out _).mono ?_
  rintro e w1 ⟨rfl, hb1⟩
  have S1 : Hid (BoxIn w w1 (instrC (o : Nat) (a : Nat) (b : Nat) (c : Nat) imm (d : Nat) false false)) := S0.out.step hb1
  obtain ⟨q0, q1, q2, q3, q4, q5, q6, q7⟩ := box8_facts S1.out.2
  have l1 : w.heap.size < w1.heap.size := (Array.getElem?_eq_some_iff.1 S1.out.2).1
  have X1 : Hid _ := heap_alloc_new w1 (.cells #[.string s, .int .i64 11, .int .i64 (cc : Nat), .int .i64 (f3 : Nat), .int .i64 (f7 : Nat)] 72)
  have S2 : Hid (BoxIn w (w1.alloc (.cells #[.string s, .int .i64 11, .int .i64 (cc : Nat), .int .i64 (f3 : Nat), .int .i64 (f7 : Nat)] 72)) (instrC (o : Nat) (a : Nat) (b : Nat) (c : Nat) imm (d : Nat) false false)) := S1.out.alloc _
  clear hb1
  go_wp2_with fail
  refine (in2b 11 1 2 _ _ (by simp) false (by decide) ).mono ?_
  rintro e w2 ⟨rfl, hb2⟩
  have S3 : Hid (BoxIn w w2 (instrC (o : Nat) (a : Nat) (b : Nat) (c : Nat) imm (d : Nat) false false)) := S2.out.step hb2
  have X2 : Hid _ := below_box X1.out hb2
  have l2 : w1.heap.size < w2.heap.size := (Array.getElem?_eq_some_iff.1 X2.out).1
  obtain ⟨r0, r1, r2, r3, r4, r5, r6, r7⟩ := box8_facts S3.out.2
  obtain ⟨z0, z1, z2, z3, z4⟩ := box5_facts X2.out
  clear hb2 X1 S2 S1 S0 q0 q1 q2 q3 q4 q5 q6 q7
  go_wp2_with (first | (go_at_call 47; refine (HI.out _).mono ?_; rintro e w' ⟨rfl, hw⟩; rw [hw]; clear hw))
  go_ret
  exact ⟨ret64 (by have e := fin_word_11 cc a b c d f3 0 f7; omega), S3.out.1⟩
theorem fin_word_12 (cc a b c d f3 n f7 : Nat) : dSum 12 cc a b c d f3 n f7 false false = cc + a * 128 + b * 32768 + c * 1048576 + d * 1048576 + f3 * 4096 + n + 0 := by
  unfold dSum
  rw [(add_order _).1, dA3_no 12 _ (by decide), dA7_d 12 _ (by decide) (by decide) (by decide)]
set_option maxRecDepth 100000 in
set_option maxHeartbeats 1000000 in
theorem word_12 (o a b c d cc f3 f7 n : Nat) (imm : Int) (s : ByteArray) (ha : a ≤ 31) (hb : b ≤ 31) (hc : c ≤ 31) (hd : d ≤ 4095) (hcc : cc < 128) (hf3 : f3 < 8) (hf7 : f7 < 1024) (hn : n < 4294967296) (w : World)
    (hO : ∀ w, Calls Tryz.prog 45 #[.int .i64 (o : Nat)] w fun e w' => e = .returned (.agg #[.string s, .int .i64 12, .int .i64 (cc : Nat), .int .i64 (f3 : Nat), .int .i64 (f7 : Nat)]) ∧ Below w.heap.size w w')
    : Calls Tryz.prog 16 #[.agg (instrC (o : Nat) (a : Nat) (b : Nat) (c : Nat) imm (d : Nat) false false)] w fun e w' => e = .returned (.int .i64 (dSum 12 cc a b c d f3 0 f7 false false : Nat)) ∧ Below w.heap.size w w' := by
  have S0 : Hid (BoxIn w (w.alloc (.cells (instrC (o : Nat) (a : Nat) (b : Nat) (c : Nat) imm (d : Nat) false false) 23)) (instrC (o : Nat) (a : Nat) (b : Nat) (c : Nat) imm (d : Nat) false false)) := BoxIn.new w (instrC (o : Nat) (a : Nat) (b : Nat) (c : Nat) imm (d : Nat) false false)
  have HO : Hid _ := hO
  obtain ⟨lo, hi, st, hI⟩ := dimm_ok 12 (by decide) false (by decide) 12 rfl
  have HI : Hid _ := hI
  clear hI
  clear hO
  have ia : (a : Int) ≤ 31 := by omega
  have ib : (b : Int) ≤ 31 := by omega
  have ic : (c : Int) ≤ 31 := by omega
  have id' : (d : Int) ≤ 4095 := by omega
  have icc : (cc : Int) < 128 := by omega
  have if3 : (f3 : Int) < 8 := by omega
  have if7 : (f7 : Int) < 1024 := by omega
  have inn : (n : Int) < 4294967296 := by omega
  go_enter Tryz.func16, Tryz.ntmps16
  go_wp2_with fail
  refine (HO.out _).mono ?_
  rintro e w1 ⟨rfl, hb1⟩
  have S1 : Hid (BoxIn w w1 (instrC (o : Nat) (a : Nat) (b : Nat) (c : Nat) imm (d : Nat) false false)) := S0.out.step hb1
  obtain ⟨q0, q1, q2, q3, q4, q5, q6, q7⟩ := box8_facts S1.out.2
  have l1 : w.heap.size < w1.heap.size := (Array.getElem?_eq_some_iff.1 S1.out.2).1
  have X1 : Hid _ := heap_alloc_new w1 (.cells #[.string s, .int .i64 12, .int .i64 (cc : Nat), .int .i64 (f3 : Nat), .int .i64 (f7 : Nat)] 72)
  have S2 : Hid (BoxIn w (w1.alloc (.cells #[.string s, .int .i64 12, .int .i64 (cc : Nat), .int .i64 (f3 : Nat), .int .i64 (f7 : Nat)] 72)) (instrC (o : Nat) (a : Nat) (b : Nat) (c : Nat) imm (d : Nat) false false)) := S1.out.alloc _
  clear hb1
  go_wp2_with fail
  refine (in2b 12 1 2 _ _ (by simp) false (by decide) ).mono ?_
  rintro e w2 ⟨rfl, hb2⟩
  have S3 : Hid (BoxIn w w2 (instrC (o : Nat) (a : Nat) (b : Nat) (c : Nat) imm (d : Nat) false false)) := S2.out.step hb2
  have X2 : Hid _ := below_box X1.out hb2
  have l2 : w1.heap.size < w2.heap.size := (Array.getElem?_eq_some_iff.1 X2.out).1
  obtain ⟨r0, r1, r2, r3, r4, r5, r6, r7⟩ := box8_facts S3.out.2
  obtain ⟨z0, z1, z2, z3, z4⟩ := box5_facts X2.out
  clear hb2 X1 S2 S1 S0 q0 q1 q2 q3 q4 q5 q6 q7
  go_wp2_with (first | (go_at_call 47; refine (HI.out _).mono ?_; rintro e w' ⟨rfl, hw⟩; rw [hw]; clear hw))
  go_ret
  exact ⟨ret64 (by have e := fin_word_12 cc a b c d f3 0 f7; omega), S3.out.1⟩
end Go.Proofs.YtooaafbdjnlmfaaGreatDoor

namespace Go.Proofs.YtooaafbdjnlmfaaGreatDoor
open Go.RowKit
set_option linter.unusedVariables false
set_option linter.unusedSimpArgs false
theorem fin_word_13 (cc a b c d f3 n f7 : Nat) : dSum 13 cc a b c d f3 n f7 false false = cc + a * 128 + b * 32768 + c * 1048576 + d * 1048576 + f3 * 4096 + n + 0 := by
  unfold dSum
  rw [(add_order _).1, dA3_no 13 _ (by decide), dA7_d 13 _ (by decide) (by decide) (by decide)]
set_option maxRecDepth 100000 in
set_option maxHeartbeats 1000000 in
theorem word_13 (o a b c d cc f3 f7 n : Nat) (imm : Int) (s : ByteArray) (ha : a ≤ 31) (hb : b ≤ 31) (hc : c ≤ 31) (hd : d ≤ 4095) (hcc : cc < 128) (hf3 : f3 < 8) (hf7 : f7 < 1024) (hn : n < 4294967296) (w : World)
    (hO : ∀ w, Calls Tryz.prog 45 #[.int .i64 (o : Nat)] w fun e w' => e = .returned (.agg #[.string s, .int .i64 13, .int .i64 (cc : Nat), .int .i64 (f3 : Nat), .int .i64 (f7 : Nat)]) ∧ Below w.heap.size w w')
    (hN : ∀ w, Calls Tryz.prog 48 #[.int .i64 13, .int .i64 imm] w fun e w' => e = .returned (.int .i64 (n : Nat)) ∧ Below w.heap.size w w')
    : Calls Tryz.prog 16 #[.agg (instrC (o : Nat) (a : Nat) (b : Nat) (c : Nat) imm (d : Nat) false false)] w fun e w' => e = .returned (.int .i64 (dSum 13 cc a b c d f3 n f7 false false : Nat)) ∧ Below w.heap.size w w' := by
  have S0 : Hid (BoxIn w (w.alloc (.cells (instrC (o : Nat) (a : Nat) (b : Nat) (c : Nat) imm (d : Nat) false false) 23)) (instrC (o : Nat) (a : Nat) (b : Nat) (c : Nat) imm (d : Nat) false false)) := BoxIn.new w (instrC (o : Nat) (a : Nat) (b : Nat) (c : Nat) imm (d : Nat) false false)
  have HO : Hid _ := hO
  have HN : Hid _ := hN
  clear hN
  obtain ⟨lo, hi, st, hI⟩ := dimm_ok 13 (by decide) true (by decide) 13 rfl
  have HI : Hid _ := hI
  clear hI
  clear hO
  have ia : (a : Int) ≤ 31 := by omega
  have ib : (b : Int) ≤ 31 := by omega
  have ic : (c : Int) ≤ 31 := by omega
  have id' : (d : Int) ≤ 4095 := by omega
  have icc : (cc : Int) < 128 := by omega
  have if3 : (f3 : Int) < 8 := by omega
  have if7 : (f7 : Int) < 1024 := by omega
  have inn : (n : Int) < 4294967296 := by omega
  go_enter Tryz.func16, Tryz.ntmps16
  go_wp2_with fail
  refine (HO.out _).mono ?_
  rintro e w1 ⟨rfl, hb1⟩
  have S1 : Hid (BoxIn w w1 (instrC (o : Nat) (a : Nat) (b : Nat) (c : Nat) imm (d : Nat) false false)) := S0.out.step hb1
  obtain ⟨q0, q1, q2, q3, q4, q5, q6, q7⟩ := box8_facts S1.out.2
  have l1 : w.heap.size < w1.heap.size := (Array.getElem?_eq_some_iff.1 S1.out.2).1
  have X1 : Hid _ := heap_alloc_new w1 (.cells #[.string s, .int .i64 13, .int .i64 (cc : Nat), .int .i64 (f3 : Nat), .int .i64 (f7 : Nat)] 72)
  have S2 : Hid (BoxIn w (w1.alloc (.cells #[.string s, .int .i64 13, .int .i64 (cc : Nat), .int .i64 (f3 : Nat), .int .i64 (f7 : Nat)] 72)) (instrC (o : Nat) (a : Nat) (b : Nat) (c : Nat) imm (d : Nat) false false)) := S1.out.alloc _
  clear hb1
  go_wp2_with fail
  refine (in2b 13 1 2 _ _ (by simp) false (by decide) ).mono ?_
  rintro e w2 ⟨rfl, hb2⟩
  have S3 : Hid (BoxIn w w2 (instrC (o : Nat) (a : Nat) (b : Nat) (c : Nat) imm (d : Nat) false false)) := S2.out.step hb2
  have X2 : Hid _ := below_box X1.out hb2
  have l2 : w1.heap.size < w2.heap.size := (Array.getElem?_eq_some_iff.1 X2.out).1
  obtain ⟨r0, r1, r2, r3, r4, r5, r6, r7⟩ := box8_facts S3.out.2
  obtain ⟨z0, z1, z2, z3, z4⟩ := box5_facts X2.out
  clear hb2 X1 S2 S1 S0 q0 q1 q2 q3 q4 q5 q6 q7
  go_wp2_with (first | (go_at_call 47; refine (HI.out _).mono ?_; rintro e w' ⟨rfl, hw⟩; rw [hw]; clear hw))
  refine (HN.out _).mono ?_
  rintro e w3 ⟨rfl, hb3⟩
  have S4 : Hid (BoxIn w w3 (instrC (o : Nat) (a : Nat) (b : Nat) (c : Nat) imm (d : Nat) false false)) := S3.out.step hb3
  have X3 : Hid _ := below_box X2.out hb3
  obtain ⟨q0, q1, q2, q3, q4, q5, q6, q7⟩ := box8_facts S4.out.2
  obtain ⟨y0, y1, y2, y3, y4⟩ := box5_facts X3.out
  clear hb3
  go_wp2
  go_ret
  exact ⟨ret64 (by have e := fin_word_13 cc a b c d f3 n f7; omega), S4.out.1⟩
theorem fin_word_16 (cc a b c d f3 n f7 : Nat) : dSum 16 cc a b c d f3 n f7 false false = cc + a * 128 + b * 32768 + c * 1048576 + d * 1048576 + f3 * 4096 + n + f7 * 33554432 := by
  unfold dSum
  rw [(add_order _).1, dA3_no 16 _ (by decide), dA7_a 16 _ (by decide)]
set_option maxRecDepth 100000 in
set_option maxHeartbeats 1000000 in
theorem word_16 (o a b c d cc f3 f7 n : Nat) (imm : Int) (s : ByteArray) (ha : a ≤ 31) (hb : b ≤ 31) (hc : c ≤ 31) (hd : d ≤ 4095) (hcc : cc < 128) (hf3 : f3 < 8) (hf7 : f7 < 1024) (hn : n < 4294967296) (w : World)
    (hO : ∀ w, Calls Tryz.prog 45 #[.int .i64 (o : Nat)] w fun e w' => e = .returned (.agg #[.string s, .int .i64 16, .int .i64 (cc : Nat), .int .i64 (f3 : Nat), .int .i64 (f7 : Nat)]) ∧ Below w.heap.size w w')
    : Calls Tryz.prog 16 #[.agg (instrC (o : Nat) (a : Nat) (b : Nat) (c : Nat) imm (d : Nat) false false)] w fun e w' => e = .returned (.int .i64 (dSum 16 cc a b c d f3 0 f7 false false : Nat)) ∧ Below w.heap.size w w' := by
  have S0 : Hid (BoxIn w (w.alloc (.cells (instrC (o : Nat) (a : Nat) (b : Nat) (c : Nat) imm (d : Nat) false false) 23)) (instrC (o : Nat) (a : Nat) (b : Nat) (c : Nat) imm (d : Nat) false false)) := BoxIn.new w (instrC (o : Nat) (a : Nat) (b : Nat) (c : Nat) imm (d : Nat) false false)
  have HO : Hid _ := hO
  obtain ⟨lo, hi, st, hI⟩ := dimm_ok 16 (by decide) false (by decide) 16 rfl
  have HI : Hid _ := hI
  clear hI
  clear hO
  have ia : (a : Int) ≤ 31 := by omega
  have ib : (b : Int) ≤ 31 := by omega
  have ic : (c : Int) ≤ 31 := by omega
  have id' : (d : Int) ≤ 4095 := by omega
  have icc : (cc : Int) < 128 := by omega
  have if3 : (f3 : Int) < 8 := by omega
  have if7 : (f7 : Int) < 1024 := by omega
  have inn : (n : Int) < 4294967296 := by omega
  go_enter Tryz.func16, Tryz.ntmps16
  go_wp2_with fail
  refine (HO.out _).mono ?_
  rintro e w1 ⟨rfl, hb1⟩
  have S1 : Hid (BoxIn w w1 (instrC (o : Nat) (a : Nat) (b : Nat) (c : Nat) imm (d : Nat) false false)) := S0.out.step hb1
  obtain ⟨q0, q1, q2, q3, q4, q5, q6, q7⟩ := box8_facts S1.out.2
  have l1 : w.heap.size < w1.heap.size := (Array.getElem?_eq_some_iff.1 S1.out.2).1
  have X1 : Hid _ := heap_alloc_new w1 (.cells #[.string s, .int .i64 16, .int .i64 (cc : Nat), .int .i64 (f3 : Nat), .int .i64 (f7 : Nat)] 72)
  have S2 : Hid (BoxIn w (w1.alloc (.cells #[.string s, .int .i64 16, .int .i64 (cc : Nat), .int .i64 (f3 : Nat), .int .i64 (f7 : Nat)] 72)) (instrC (o : Nat) (a : Nat) (b : Nat) (c : Nat) imm (d : Nat) false false)) := S1.out.alloc _
  clear hb1
  go_wp2_with fail
  refine (in2b 16 1 2 _ _ (by simp) false (by decide) ).mono ?_
  rintro e w2 ⟨rfl, hb2⟩
  have S3 : Hid (BoxIn w w2 (instrC (o : Nat) (a : Nat) (b : Nat) (c : Nat) imm (d : Nat) false false)) := S2.out.step hb2
  have X2 : Hid _ := below_box X1.out hb2
  have l2 : w1.heap.size < w2.heap.size := (Array.getElem?_eq_some_iff.1 X2.out).1
  obtain ⟨r0, r1, r2, r3, r4, r5, r6, r7⟩ := box8_facts S3.out.2
  obtain ⟨z0, z1, z2, z3, z4⟩ := box5_facts X2.out
  clear hb2 X1 S2 S1 S0 q0 q1 q2 q3 q4 q5 q6 q7
  go_wp2_with (first | (go_at_call 47; refine (HI.out _).mono ?_; rintro e w' ⟨rfl, hw⟩; rw [hw]; clear hw))
  go_ret
  exact ⟨ret64 (by have e := fin_word_16 cc a b c d f3 0 f7; omega), S3.out.1⟩
end Go.Proofs.YtooaafbdjnlmfaaGreatDoor

namespace Go.Proofs.YtooaafbdjnlmfaaGreatDoor
open Go.RowKit
set_option linter.unusedVariables false
set_option linter.unusedSimpArgs false
theorem fin_word_14_ff (cc a b c d f3 n f7 : Nat) : dSum 14 cc a b c d f3 n f7 false false = cc + a * 128 + b * 32768 + c * 1048576 + d * 1048576 + f3 * 4096 + n + f7 * 134217728 := by
  unfold dSum
  rw [(add_order _).1, dA3_no 14 _ (by decide), dA7_c 14 _ (by decide)]
set_option maxRecDepth 100000 in
set_option maxHeartbeats 1000000 in
theorem word_14_ff (o a b c d cc f3 f7 n : Nat) (imm : Int) (s : ByteArray) (ha : a ≤ 31) (hb : b ≤ 31) (hc : c ≤ 31) (hd : d ≤ 4095) (hcc : cc < 128) (hf3 : f3 < 8) (hf7 : f7 < 1024) (hn : n < 4294967296) (w : World)
    (hO : ∀ w, Calls Tryz.prog 45 #[.int .i64 (o : Nat)] w fun e w' => e = .returned (.agg #[.string s, .int .i64 14, .int .i64 (cc : Nat), .int .i64 (f3 : Nat), .int .i64 (f7 : Nat)]) ∧ Below w.heap.size w w')
    : Calls Tryz.prog 16 #[.agg (instrC (o : Nat) (a : Nat) (b : Nat) (c : Nat) imm (d : Nat) false false)] w fun e w' => e = .returned (.int .i64 (dSum 14 cc a b c d f3 0 f7 false false : Nat)) ∧ Below w.heap.size w w' := by
  have S0 : Hid (BoxIn w (w.alloc (.cells (instrC (o : Nat) (a : Nat) (b : Nat) (c : Nat) imm (d : Nat) false false) 23)) (instrC (o : Nat) (a : Nat) (b : Nat) (c : Nat) imm (d : Nat) false false)) := BoxIn.new w (instrC (o : Nat) (a : Nat) (b : Nat) (c : Nat) imm (d : Nat) false false)
  have HO : Hid _ := hO
  obtain ⟨lo, hi, st, hI⟩ := dimm_ok 14 (by decide) false (by decide) 14 rfl
  have HI : Hid _ := hI
  clear hI
  clear hO
  have ia : (a : Int) ≤ 31 := by omega
  have ib : (b : Int) ≤ 31 := by omega
  have ic : (c : Int) ≤ 31 := by omega
  have id' : (d : Int) ≤ 4095 := by omega
  have icc : (cc : Int) < 128 := by omega
  have if3 : (f3 : Int) < 8 := by omega
  have if7 : (f7 : Int) < 1024 := by omega
  have inn : (n : Int) < 4294967296 := by omega
  go_enter Tryz.func16, Tryz.ntmps16
  go_wp2_with fail
  refine (HO.out _).mono ?_
  rintro e w1 ⟨rfl, hb1⟩
  have S1 : Hid (BoxIn w w1 (instrC (o : Nat) (a : Nat) (b : Nat) (c : Nat) imm (d : Nat) false false)) := S0.out.step hb1
  obtain ⟨q0, q1, q2, q3, q4, q5, q6, q7⟩ := box8_facts S1.out.2
  have l1 : w.heap.size < w1.heap.size := (Array.getElem?_eq_some_iff.1 S1.out.2).1
  have X1 : Hid _ := heap_alloc_new w1 (.cells #[.string s, .int .i64 14, .int .i64 (cc : Nat), .int .i64 (f3 : Nat), .int .i64 (f7 : Nat)] 72)
  have S2 : Hid (BoxIn w (w1.alloc (.cells #[.string s, .int .i64 14, .int .i64 (cc : Nat), .int .i64 (f3 : Nat), .int .i64 (f7 : Nat)] 72)) (instrC (o : Nat) (a : Nat) (b : Nat) (c : Nat) imm (d : Nat) false false)) := S1.out.alloc _
  clear hb1
  go_wp2_with fail
  refine (in2b 14 1 2 _ _ (by simp) false (by decide) ).mono ?_
  rintro e w2 ⟨rfl, hb2⟩
  have S3 : Hid (BoxIn w w2 (instrC (o : Nat) (a : Nat) (b : Nat) (c : Nat) imm (d : Nat) false false)) := S2.out.step hb2
  have X2 : Hid _ := below_box X1.out hb2
  have l2 : w1.heap.size < w2.heap.size := (Array.getElem?_eq_some_iff.1 X2.out).1
  obtain ⟨r0, r1, r2, r3, r4, r5, r6, r7⟩ := box8_facts S3.out.2
  obtain ⟨z0, z1, z2, z3, z4⟩ := box5_facts X2.out
  clear hb2 X1 S2 S1 S0 q0 q1 q2 q3 q4 q5 q6 q7
  go_wp2_with (first | (go_at_call 47; refine (HI.out _).mono ?_; rintro e w' ⟨rfl, hw⟩; rw [hw]; clear hw))
  go_ret
  exact ⟨ret64 (by have e := fin_word_14_ff cc a b c d f3 0 f7; omega), S3.out.1⟩
theorem fin_word_14_ft (cc a b c d f3 n f7 : Nat) : dSum 14 cc a b c d f3 n f7 false true = cc + a * 128 + b * 32768 + c * 1048576 + d * 1048576 + f3 * 4096 + n + f7 * 134217728 + 33554432 := by
  unfold dSum
  rw [(add_order _).2.1, dA3_no 14 _ (by decide), dA7_c 14 _ (by decide)]
set_option maxRecDepth 100000 in
set_option maxHeartbeats 1000000 in
theorem word_14_ft (o a b c d cc f3 f7 n : Nat) (imm : Int) (s : ByteArray) (ha : a ≤ 31) (hb : b ≤ 31) (hc : c ≤ 31) (hd : d ≤ 4095) (hcc : cc < 128) (hf3 : f3 < 8) (hf7 : f7 < 1024) (hn : n < 4294967296) (w : World)
    (hO : ∀ w, Calls Tryz.prog 45 #[.int .i64 (o : Nat)] w fun e w' => e = .returned (.agg #[.string s, .int .i64 14, .int .i64 (cc : Nat), .int .i64 (f3 : Nat), .int .i64 (f7 : Nat)]) ∧ Below w.heap.size w w')
    : Calls Tryz.prog 16 #[.agg (instrC (o : Nat) (a : Nat) (b : Nat) (c : Nat) imm (d : Nat) false true)] w fun e w' => e = .returned (.int .i64 (dSum 14 cc a b c d f3 0 f7 false true : Nat)) ∧ Below w.heap.size w w' := by
  have S0 : Hid (BoxIn w (w.alloc (.cells (instrC (o : Nat) (a : Nat) (b : Nat) (c : Nat) imm (d : Nat) false true) 23)) (instrC (o : Nat) (a : Nat) (b : Nat) (c : Nat) imm (d : Nat) false true)) := BoxIn.new w (instrC (o : Nat) (a : Nat) (b : Nat) (c : Nat) imm (d : Nat) false true)
  have HO : Hid _ := hO
  obtain ⟨lo, hi, st, hI⟩ := dimm_ok 14 (by decide) false (by decide) 14 rfl
  have HI : Hid _ := hI
  clear hI
  clear hO
  have ia : (a : Int) ≤ 31 := by omega
  have ib : (b : Int) ≤ 31 := by omega
  have ic : (c : Int) ≤ 31 := by omega
  have id' : (d : Int) ≤ 4095 := by omega
  have icc : (cc : Int) < 128 := by omega
  have if3 : (f3 : Int) < 8 := by omega
  have if7 : (f7 : Int) < 1024 := by omega
  have inn : (n : Int) < 4294967296 := by omega
  go_enter Tryz.func16, Tryz.ntmps16
  go_wp2_with fail
  refine (HO.out _).mono ?_
  rintro e w1 ⟨rfl, hb1⟩
  have S1 : Hid (BoxIn w w1 (instrC (o : Nat) (a : Nat) (b : Nat) (c : Nat) imm (d : Nat) false true)) := S0.out.step hb1
  obtain ⟨q0, q1, q2, q3, q4, q5, q6, q7⟩ := box8_facts S1.out.2
  have l1 : w.heap.size < w1.heap.size := (Array.getElem?_eq_some_iff.1 S1.out.2).1
  have X1 : Hid _ := heap_alloc_new w1 (.cells #[.string s, .int .i64 14, .int .i64 (cc : Nat), .int .i64 (f3 : Nat), .int .i64 (f7 : Nat)] 72)
  have S2 : Hid (BoxIn w (w1.alloc (.cells #[.string s, .int .i64 14, .int .i64 (cc : Nat), .int .i64 (f3 : Nat), .int .i64 (f7 : Nat)] 72)) (instrC (o : Nat) (a : Nat) (b : Nat) (c : Nat) imm (d : Nat) false true)) := S1.out.alloc _
  clear hb1
  go_wp2_with fail
  refine (in2b 14 1 2 _ _ (by simp) false (by decide) ).mono ?_
  rintro e w2 ⟨rfl, hb2⟩
  have S3 : Hid (BoxIn w w2 (instrC (o : Nat) (a : Nat) (b : Nat) (c : Nat) imm (d : Nat) false true)) := S2.out.step hb2
  have X2 : Hid _ := below_box X1.out hb2
  have l2 : w1.heap.size < w2.heap.size := (Array.getElem?_eq_some_iff.1 X2.out).1
  obtain ⟨r0, r1, r2, r3, r4, r5, r6, r7⟩ := box8_facts S3.out.2
  obtain ⟨z0, z1, z2, z3, z4⟩ := box5_facts X2.out
  clear hb2 X1 S2 S1 S0 q0 q1 q2 q3 q4 q5 q6 q7
  go_wp2_with (first | (go_at_call 47; refine (HI.out _).mono ?_; rintro e w' ⟨rfl, hw⟩; rw [hw]; clear hw))
  go_ret
  exact ⟨ret64 (by have e := fin_word_14_ft cc a b c d f3 0 f7; omega), S3.out.1⟩
theorem fin_word_14_tf (cc a b c d f3 n f7 : Nat) : dSum 14 cc a b c d f3 n f7 true false = cc + a * 128 + b * 32768 + c * 1048576 + d * 1048576 + f3 * 4096 + n + f7 * 134217728 + 67108864 := by
  unfold dSum
  rw [(add_order _).2.2.1, dA3_no 14 _ (by decide), dA7_c 14 _ (by decide)]
set_option maxRecDepth 100000 in
set_option maxHeartbeats 1000000 in
theorem word_14_tf (o a b c d cc f3 f7 n : Nat) (imm : Int) (s : ByteArray) (ha : a ≤ 31) (hb : b ≤ 31) (hc : c ≤ 31) (hd : d ≤ 4095) (hcc : cc < 128) (hf3 : f3 < 8) (hf7 : f7 < 1024) (hn : n < 4294967296) (w : World)
    (hO : ∀ w, Calls Tryz.prog 45 #[.int .i64 (o : Nat)] w fun e w' => e = .returned (.agg #[.string s, .int .i64 14, .int .i64 (cc : Nat), .int .i64 (f3 : Nat), .int .i64 (f7 : Nat)]) ∧ Below w.heap.size w w')
    : Calls Tryz.prog 16 #[.agg (instrC (o : Nat) (a : Nat) (b : Nat) (c : Nat) imm (d : Nat) true false)] w fun e w' => e = .returned (.int .i64 (dSum 14 cc a b c d f3 0 f7 true false : Nat)) ∧ Below w.heap.size w w' := by
  have S0 : Hid (BoxIn w (w.alloc (.cells (instrC (o : Nat) (a : Nat) (b : Nat) (c : Nat) imm (d : Nat) true false) 23)) (instrC (o : Nat) (a : Nat) (b : Nat) (c : Nat) imm (d : Nat) true false)) := BoxIn.new w (instrC (o : Nat) (a : Nat) (b : Nat) (c : Nat) imm (d : Nat) true false)
  have HO : Hid _ := hO
  obtain ⟨lo, hi, st, hI⟩ := dimm_ok 14 (by decide) false (by decide) 14 rfl
  have HI : Hid _ := hI
  clear hI
  clear hO
  have ia : (a : Int) ≤ 31 := by omega
  have ib : (b : Int) ≤ 31 := by omega
  have ic : (c : Int) ≤ 31 := by omega
  have id' : (d : Int) ≤ 4095 := by omega
  have icc : (cc : Int) < 128 := by omega
  have if3 : (f3 : Int) < 8 := by omega
  have if7 : (f7 : Int) < 1024 := by omega
  have inn : (n : Int) < 4294967296 := by omega
  go_enter Tryz.func16, Tryz.ntmps16
  go_wp2_with fail
  refine (HO.out _).mono ?_
  rintro e w1 ⟨rfl, hb1⟩
  have S1 : Hid (BoxIn w w1 (instrC (o : Nat) (a : Nat) (b : Nat) (c : Nat) imm (d : Nat) true false)) := S0.out.step hb1
  obtain ⟨q0, q1, q2, q3, q4, q5, q6, q7⟩ := box8_facts S1.out.2
  have l1 : w.heap.size < w1.heap.size := (Array.getElem?_eq_some_iff.1 S1.out.2).1
  have X1 : Hid _ := heap_alloc_new w1 (.cells #[.string s, .int .i64 14, .int .i64 (cc : Nat), .int .i64 (f3 : Nat), .int .i64 (f7 : Nat)] 72)
  have S2 : Hid (BoxIn w (w1.alloc (.cells #[.string s, .int .i64 14, .int .i64 (cc : Nat), .int .i64 (f3 : Nat), .int .i64 (f7 : Nat)] 72)) (instrC (o : Nat) (a : Nat) (b : Nat) (c : Nat) imm (d : Nat) true false)) := S1.out.alloc _
  clear hb1
  go_wp2_with fail
  refine (in2b 14 1 2 _ _ (by simp) false (by decide) ).mono ?_
  rintro e w2 ⟨rfl, hb2⟩
  have S3 : Hid (BoxIn w w2 (instrC (o : Nat) (a : Nat) (b : Nat) (c : Nat) imm (d : Nat) true false)) := S2.out.step hb2
  have X2 : Hid _ := below_box X1.out hb2
  have l2 : w1.heap.size < w2.heap.size := (Array.getElem?_eq_some_iff.1 X2.out).1
  obtain ⟨r0, r1, r2, r3, r4, r5, r6, r7⟩ := box8_facts S3.out.2
  obtain ⟨z0, z1, z2, z3, z4⟩ := box5_facts X2.out
  clear hb2 X1 S2 S1 S0 q0 q1 q2 q3 q4 q5 q6 q7
  go_wp2_with (first | (go_at_call 47; refine (HI.out _).mono ?_; rintro e w' ⟨rfl, hw⟩; rw [hw]; clear hw))
  go_ret
  exact ⟨ret64 (by have e := fin_word_14_tf cc a b c d f3 0 f7; omega), S3.out.1⟩
theorem fin_word_14_tt (cc a b c d f3 n f7 : Nat) : dSum 14 cc a b c d f3 n f7 true true = cc + a * 128 + b * 32768 + c * 1048576 + d * 1048576 + f3 * 4096 + n + f7 * 134217728 + 67108864 + 33554432 := by
  unfold dSum
  rw [(add_order _).2.2.2, dA3_no 14 _ (by decide), dA7_c 14 _ (by decide)]
set_option maxRecDepth 100000 in
set_option maxHeartbeats 1000000 in
theorem word_14_tt (o a b c d cc f3 f7 n : Nat) (imm : Int) (s : ByteArray) (ha : a ≤ 31) (hb : b ≤ 31) (hc : c ≤ 31) (hd : d ≤ 4095) (hcc : cc < 128) (hf3 : f3 < 8) (hf7 : f7 < 1024) (hn : n < 4294967296) (w : World)
    (hO : ∀ w, Calls Tryz.prog 45 #[.int .i64 (o : Nat)] w fun e w' => e = .returned (.agg #[.string s, .int .i64 14, .int .i64 (cc : Nat), .int .i64 (f3 : Nat), .int .i64 (f7 : Nat)]) ∧ Below w.heap.size w w')
    : Calls Tryz.prog 16 #[.agg (instrC (o : Nat) (a : Nat) (b : Nat) (c : Nat) imm (d : Nat) true true)] w fun e w' => e = .returned (.int .i64 (dSum 14 cc a b c d f3 0 f7 true true : Nat)) ∧ Below w.heap.size w w' := by
  have S0 : Hid (BoxIn w (w.alloc (.cells (instrC (o : Nat) (a : Nat) (b : Nat) (c : Nat) imm (d : Nat) true true) 23)) (instrC (o : Nat) (a : Nat) (b : Nat) (c : Nat) imm (d : Nat) true true)) := BoxIn.new w (instrC (o : Nat) (a : Nat) (b : Nat) (c : Nat) imm (d : Nat) true true)
  have HO : Hid _ := hO
  obtain ⟨lo, hi, st, hI⟩ := dimm_ok 14 (by decide) false (by decide) 14 rfl
  have HI : Hid _ := hI
  clear hI
  clear hO
  have ia : (a : Int) ≤ 31 := by omega
  have ib : (b : Int) ≤ 31 := by omega
  have ic : (c : Int) ≤ 31 := by omega
  have id' : (d : Int) ≤ 4095 := by omega
  have icc : (cc : Int) < 128 := by omega
  have if3 : (f3 : Int) < 8 := by omega
  have if7 : (f7 : Int) < 1024 := by omega
  have inn : (n : Int) < 4294967296 := by omega
  go_enter Tryz.func16, Tryz.ntmps16
  go_wp2_with fail
  refine (HO.out _).mono ?_
  rintro e w1 ⟨rfl, hb1⟩
  have S1 : Hid (BoxIn w w1 (instrC (o : Nat) (a : Nat) (b : Nat) (c : Nat) imm (d : Nat) true true)) := S0.out.step hb1
  obtain ⟨q0, q1, q2, q3, q4, q5, q6, q7⟩ := box8_facts S1.out.2
  have l1 : w.heap.size < w1.heap.size := (Array.getElem?_eq_some_iff.1 S1.out.2).1
  have X1 : Hid _ := heap_alloc_new w1 (.cells #[.string s, .int .i64 14, .int .i64 (cc : Nat), .int .i64 (f3 : Nat), .int .i64 (f7 : Nat)] 72)
  have S2 : Hid (BoxIn w (w1.alloc (.cells #[.string s, .int .i64 14, .int .i64 (cc : Nat), .int .i64 (f3 : Nat), .int .i64 (f7 : Nat)] 72)) (instrC (o : Nat) (a : Nat) (b : Nat) (c : Nat) imm (d : Nat) true true)) := S1.out.alloc _
  clear hb1
  go_wp2_with fail
  refine (in2b 14 1 2 _ _ (by simp) false (by decide) ).mono ?_
  rintro e w2 ⟨rfl, hb2⟩
  have S3 : Hid (BoxIn w w2 (instrC (o : Nat) (a : Nat) (b : Nat) (c : Nat) imm (d : Nat) true true)) := S2.out.step hb2
  have X2 : Hid _ := below_box X1.out hb2
  have l2 : w1.heap.size < w2.heap.size := (Array.getElem?_eq_some_iff.1 X2.out).1
  obtain ⟨r0, r1, r2, r3, r4, r5, r6, r7⟩ := box8_facts S3.out.2
  obtain ⟨z0, z1, z2, z3, z4⟩ := box5_facts X2.out
  clear hb2 X1 S2 S1 S0 q0 q1 q2 q3 q4 q5 q6 q7
  go_wp2_with (first | (go_at_call 47; refine (HI.out _).mono ?_; rintro e w' ⟨rfl, hw⟩; rw [hw]; clear hw))
  go_ret
  exact ⟨ret64 (by have e := fin_word_14_tt cc a b c d f3 0 f7; omega), S3.out.1⟩
end Go.Proofs.YtooaafbdjnlmfaaGreatDoor

namespace Go.Proofs.YtooaafbdjnlmfaaGreatDoor
open Go.RowKit
set_option linter.unusedVariables false
set_option linter.unusedSimpArgs false
theorem fin_word_15_ff (cc a b c d f3 n f7 : Nat) : dSum 15 cc a b c d f3 n f7 false false = cc + a * 128 + b * 32768 + c * 1048576 + d * 1048576 + f3 * 4096 + n + f7 * 134217728 := by
  unfold dSum
  rw [(add_order _).1, dA3_no 15 _ (by decide), dA7_c 15 _ (by decide)]
set_option maxRecDepth 100000 in
set_option maxHeartbeats 1000000 in
theorem word_15_ff (o a b c d cc f3 f7 n : Nat) (imm : Int) (s : ByteArray) (ha : a ≤ 31) (hb : b ≤ 31) (hc : c ≤ 31) (hd : d ≤ 4095) (hcc : cc < 128) (hf3 : f3 < 8) (hf7 : f7 < 1024) (hn : n < 4294967296) (w : World)
    (hO : ∀ w, Calls Tryz.prog 45 #[.int .i64 (o : Nat)] w fun e w' => e = .returned (.agg #[.string s, .int .i64 15, .int .i64 (cc : Nat), .int .i64 (f3 : Nat), .int .i64 (f7 : Nat)]) ∧ Below w.heap.size w w')
    : Calls Tryz.prog 16 #[.agg (instrC (o : Nat) (a : Nat) (b : Nat) (c : Nat) imm (d : Nat) false false)] w fun e w' => e = .returned (.int .i64 (dSum 15 cc a b c d f3 0 f7 false false : Nat)) ∧ Below w.heap.size w w' := by
  have S0 : Hid (BoxIn w (w.alloc (.cells (instrC (o : Nat) (a : Nat) (b : Nat) (c : Nat) imm (d : Nat) false false) 23)) (instrC (o : Nat) (a : Nat) (b : Nat) (c : Nat) imm (d : Nat) false false)) := BoxIn.new w (instrC (o : Nat) (a : Nat) (b : Nat) (c : Nat) imm (d : Nat) false false)
  have HO : Hid _ := hO
  obtain ⟨lo, hi, st, hI⟩ := dimm_ok 15 (by decide) false (by decide) 15 rfl
  have HI : Hid _ := hI
  clear hI
  clear hO
  have ia : (a : Int) ≤ 31 := by omega
  have ib : (b : Int) ≤ 31 := by omega
  have ic : (c : Int) ≤ 31 := by omega
  have id' : (d : Int) ≤ 4095 := by omega
  have icc : (cc : Int) < 128 := by omega
  have if3 : (f3 : Int) < 8 := by omega
  have if7 : (f7 : Int) < 1024 := by omega
  have inn : (n : Int) < 4294967296 := by omega
  go_enter Tryz.func16, Tryz.ntmps16
  go_wp2_with fail
  refine (HO.out _).mono ?_
  rintro e w1 ⟨rfl, hb1⟩
  have S1 : Hid (BoxIn w w1 (instrC (o : Nat) (a : Nat) (b : Nat) (c : Nat) imm (d : Nat) false false)) := S0.out.step hb1
  obtain ⟨q0, q1, q2, q3, q4, q5, q6, q7⟩ := box8_facts S1.out.2
  have l1 : w.heap.size < w1.heap.size := (Array.getElem?_eq_some_iff.1 S1.out.2).1
  have X1 : Hid _ := heap_alloc_new w1 (.cells #[.string s, .int .i64 15, .int .i64 (cc : Nat), .int .i64 (f3 : Nat), .int .i64 (f7 : Nat)] 72)
  have S2 : Hid (BoxIn w (w1.alloc (.cells #[.string s, .int .i64 15, .int .i64 (cc : Nat), .int .i64 (f3 : Nat), .int .i64 (f7 : Nat)] 72)) (instrC (o : Nat) (a : Nat) (b : Nat) (c : Nat) imm (d : Nat) false false)) := S1.out.alloc _
  clear hb1
  go_wp2_with fail
  refine (in2b 15 1 2 _ _ (by simp) false (by decide) ).mono ?_
  rintro e w2 ⟨rfl, hb2⟩
  have S3 : Hid (BoxIn w w2 (instrC (o : Nat) (a : Nat) (b : Nat) (c : Nat) imm (d : Nat) false false)) := S2.out.step hb2
  have X2 : Hid _ := below_box X1.out hb2
  have l2 : w1.heap.size < w2.heap.size := (Array.getElem?_eq_some_iff.1 X2.out).1
  obtain ⟨r0, r1, r2, r3, r4, r5, r6, r7⟩ := box8_facts S3.out.2
  obtain ⟨z0, z1, z2, z3, z4⟩ := box5_facts X2.out
  clear hb2 X1 S2 S1 S0 q0 q1 q2 q3 q4 q5 q6 q7
  go_wp2_with (first | (go_at_call 47; refine (HI.out _).mono ?_; rintro e w' ⟨rfl, hw⟩; rw [hw]; clear hw))
  go_ret
  exact ⟨ret64 (by have e := fin_word_15_ff cc a b c d f3 0 f7; omega), S3.out.1⟩
theorem fin_word_15_ft (cc a b c d f3 n f7 : Nat) : dSum 15 cc a b c d f3 n f7 false true = cc + a * 128 + b * 32768 + c * 1048576 + d * 1048576 + f3 * 4096 + n + f7 * 134217728 + 33554432 := by
  unfold dSum
  rw [(add_order _).2.1, dA3_no 15 _ (by decide), dA7_c 15 _ (by decide)]
set_option maxRecDepth 100000 in
set_option maxHeartbeats 1000000 in
theorem word_15_ft (o a b c d cc f3 f7 n : Nat) (imm : Int) (s : ByteArray) (ha : a ≤ 31) (hb : b ≤ 31) (hc : c ≤ 31) (hd : d ≤ 4095) (hcc : cc < 128) (hf3 : f3 < 8) (hf7 : f7 < 1024) (hn : n < 4294967296) (w : World)
    (hO : ∀ w, Calls Tryz.prog 45 #[.int .i64 (o : Nat)] w fun e w' => e = .returned (.agg #[.string s, .int .i64 15, .int .i64 (cc : Nat), .int .i64 (f3 : Nat), .int .i64 (f7 : Nat)]) ∧ Below w.heap.size w w')
    : Calls Tryz.prog 16 #[.agg (instrC (o : Nat) (a : Nat) (b : Nat) (c : Nat) imm (d : Nat) false true)] w fun e w' => e = .returned (.int .i64 (dSum 15 cc a b c d f3 0 f7 false true : Nat)) ∧ Below w.heap.size w w' := by
  have S0 : Hid (BoxIn w (w.alloc (.cells (instrC (o : Nat) (a : Nat) (b : Nat) (c : Nat) imm (d : Nat) false true) 23)) (instrC (o : Nat) (a : Nat) (b : Nat) (c : Nat) imm (d : Nat) false true)) := BoxIn.new w (instrC (o : Nat) (a : Nat) (b : Nat) (c : Nat) imm (d : Nat) false true)
  have HO : Hid _ := hO
  obtain ⟨lo, hi, st, hI⟩ := dimm_ok 15 (by decide) false (by decide) 15 rfl
  have HI : Hid _ := hI
  clear hI
  clear hO
  have ia : (a : Int) ≤ 31 := by omega
  have ib : (b : Int) ≤ 31 := by omega
  have ic : (c : Int) ≤ 31 := by omega
  have id' : (d : Int) ≤ 4095 := by omega
  have icc : (cc : Int) < 128 := by omega
  have if3 : (f3 : Int) < 8 := by omega
  have if7 : (f7 : Int) < 1024 := by omega
  have inn : (n : Int) < 4294967296 := by omega
  go_enter Tryz.func16, Tryz.ntmps16
  go_wp2_with fail
  refine (HO.out _).mono ?_
  rintro e w1 ⟨rfl, hb1⟩
  have S1 : Hid (BoxIn w w1 (instrC (o : Nat) (a : Nat) (b : Nat) (c : Nat) imm (d : Nat) false true)) := S0.out.step hb1
  obtain ⟨q0, q1, q2, q3, q4, q5, q6, q7⟩ := box8_facts S1.out.2
  have l1 : w.heap.size < w1.heap.size := (Array.getElem?_eq_some_iff.1 S1.out.2).1
  have X1 : Hid _ := heap_alloc_new w1 (.cells #[.string s, .int .i64 15, .int .i64 (cc : Nat), .int .i64 (f3 : Nat), .int .i64 (f7 : Nat)] 72)
  have S2 : Hid (BoxIn w (w1.alloc (.cells #[.string s, .int .i64 15, .int .i64 (cc : Nat), .int .i64 (f3 : Nat), .int .i64 (f7 : Nat)] 72)) (instrC (o : Nat) (a : Nat) (b : Nat) (c : Nat) imm (d : Nat) false true)) := S1.out.alloc _
  clear hb1
  go_wp2_with fail
  refine (in2b 15 1 2 _ _ (by simp) false (by decide) ).mono ?_
  rintro e w2 ⟨rfl, hb2⟩
  have S3 : Hid (BoxIn w w2 (instrC (o : Nat) (a : Nat) (b : Nat) (c : Nat) imm (d : Nat) false true)) := S2.out.step hb2
  have X2 : Hid _ := below_box X1.out hb2
  have l2 : w1.heap.size < w2.heap.size := (Array.getElem?_eq_some_iff.1 X2.out).1
  obtain ⟨r0, r1, r2, r3, r4, r5, r6, r7⟩ := box8_facts S3.out.2
  obtain ⟨z0, z1, z2, z3, z4⟩ := box5_facts X2.out
  clear hb2 X1 S2 S1 S0 q0 q1 q2 q3 q4 q5 q6 q7
  go_wp2_with (first | (go_at_call 47; refine (HI.out _).mono ?_; rintro e w' ⟨rfl, hw⟩; rw [hw]; clear hw))
  go_ret
  exact ⟨ret64 (by have e := fin_word_15_ft cc a b c d f3 0 f7; omega), S3.out.1⟩
theorem fin_word_15_tf (cc a b c d f3 n f7 : Nat) : dSum 15 cc a b c d f3 n f7 true false = cc + a * 128 + b * 32768 + c * 1048576 + d * 1048576 + f3 * 4096 + n + f7 * 134217728 + 67108864 := by
  unfold dSum
  rw [(add_order _).2.2.1, dA3_no 15 _ (by decide), dA7_c 15 _ (by decide)]
set_option maxRecDepth 100000 in
set_option maxHeartbeats 1000000 in
theorem word_15_tf (o a b c d cc f3 f7 n : Nat) (imm : Int) (s : ByteArray) (ha : a ≤ 31) (hb : b ≤ 31) (hc : c ≤ 31) (hd : d ≤ 4095) (hcc : cc < 128) (hf3 : f3 < 8) (hf7 : f7 < 1024) (hn : n < 4294967296) (w : World)
    (hO : ∀ w, Calls Tryz.prog 45 #[.int .i64 (o : Nat)] w fun e w' => e = .returned (.agg #[.string s, .int .i64 15, .int .i64 (cc : Nat), .int .i64 (f3 : Nat), .int .i64 (f7 : Nat)]) ∧ Below w.heap.size w w')
    : Calls Tryz.prog 16 #[.agg (instrC (o : Nat) (a : Nat) (b : Nat) (c : Nat) imm (d : Nat) true false)] w fun e w' => e = .returned (.int .i64 (dSum 15 cc a b c d f3 0 f7 true false : Nat)) ∧ Below w.heap.size w w' := by
  have S0 : Hid (BoxIn w (w.alloc (.cells (instrC (o : Nat) (a : Nat) (b : Nat) (c : Nat) imm (d : Nat) true false) 23)) (instrC (o : Nat) (a : Nat) (b : Nat) (c : Nat) imm (d : Nat) true false)) := BoxIn.new w (instrC (o : Nat) (a : Nat) (b : Nat) (c : Nat) imm (d : Nat) true false)
  have HO : Hid _ := hO
  obtain ⟨lo, hi, st, hI⟩ := dimm_ok 15 (by decide) false (by decide) 15 rfl
  have HI : Hid _ := hI
  clear hI
  clear hO
  have ia : (a : Int) ≤ 31 := by omega
  have ib : (b : Int) ≤ 31 := by omega
  have ic : (c : Int) ≤ 31 := by omega
  have id' : (d : Int) ≤ 4095 := by omega
  have icc : (cc : Int) < 128 := by omega
  have if3 : (f3 : Int) < 8 := by omega
  have if7 : (f7 : Int) < 1024 := by omega
  have inn : (n : Int) < 4294967296 := by omega
  go_enter Tryz.func16, Tryz.ntmps16
  go_wp2_with fail
  refine (HO.out _).mono ?_
  rintro e w1 ⟨rfl, hb1⟩
  have S1 : Hid (BoxIn w w1 (instrC (o : Nat) (a : Nat) (b : Nat) (c : Nat) imm (d : Nat) true false)) := S0.out.step hb1
  obtain ⟨q0, q1, q2, q3, q4, q5, q6, q7⟩ := box8_facts S1.out.2
  have l1 : w.heap.size < w1.heap.size := (Array.getElem?_eq_some_iff.1 S1.out.2).1
  have X1 : Hid _ := heap_alloc_new w1 (.cells #[.string s, .int .i64 15, .int .i64 (cc : Nat), .int .i64 (f3 : Nat), .int .i64 (f7 : Nat)] 72)
  have S2 : Hid (BoxIn w (w1.alloc (.cells #[.string s, .int .i64 15, .int .i64 (cc : Nat), .int .i64 (f3 : Nat), .int .i64 (f7 : Nat)] 72)) (instrC (o : Nat) (a : Nat) (b : Nat) (c : Nat) imm (d : Nat) true false)) := S1.out.alloc _
  clear hb1
  go_wp2_with fail
  refine (in2b 15 1 2 _ _ (by simp) false (by decide) ).mono ?_
  rintro e w2 ⟨rfl, hb2⟩
  have S3 : Hid (BoxIn w w2 (instrC (o : Nat) (a : Nat) (b : Nat) (c : Nat) imm (d : Nat) true false)) := S2.out.step hb2
  have X2 : Hid _ := below_box X1.out hb2
  have l2 : w1.heap.size < w2.heap.size := (Array.getElem?_eq_some_iff.1 X2.out).1
  obtain ⟨r0, r1, r2, r3, r4, r5, r6, r7⟩ := box8_facts S3.out.2
  obtain ⟨z0, z1, z2, z3, z4⟩ := box5_facts X2.out
  clear hb2 X1 S2 S1 S0 q0 q1 q2 q3 q4 q5 q6 q7
  go_wp2_with (first | (go_at_call 47; refine (HI.out _).mono ?_; rintro e w' ⟨rfl, hw⟩; rw [hw]; clear hw))
  go_ret
  exact ⟨ret64 (by have e := fin_word_15_tf cc a b c d f3 0 f7; omega), S3.out.1⟩
theorem fin_word_15_tt (cc a b c d f3 n f7 : Nat) : dSum 15 cc a b c d f3 n f7 true true = cc + a * 128 + b * 32768 + c * 1048576 + d * 1048576 + f3 * 4096 + n + f7 * 134217728 + 67108864 + 33554432 := by
  unfold dSum
  rw [(add_order _).2.2.2, dA3_no 15 _ (by decide), dA7_c 15 _ (by decide)]
set_option maxRecDepth 100000 in
set_option maxHeartbeats 1000000 in
theorem word_15_tt (o a b c d cc f3 f7 n : Nat) (imm : Int) (s : ByteArray) (ha : a ≤ 31) (hb : b ≤ 31) (hc : c ≤ 31) (hd : d ≤ 4095) (hcc : cc < 128) (hf3 : f3 < 8) (hf7 : f7 < 1024) (hn : n < 4294967296) (w : World)
    (hO : ∀ w, Calls Tryz.prog 45 #[.int .i64 (o : Nat)] w fun e w' => e = .returned (.agg #[.string s, .int .i64 15, .int .i64 (cc : Nat), .int .i64 (f3 : Nat), .int .i64 (f7 : Nat)]) ∧ Below w.heap.size w w')
    : Calls Tryz.prog 16 #[.agg (instrC (o : Nat) (a : Nat) (b : Nat) (c : Nat) imm (d : Nat) true true)] w fun e w' => e = .returned (.int .i64 (dSum 15 cc a b c d f3 0 f7 true true : Nat)) ∧ Below w.heap.size w w' := by
  have S0 : Hid (BoxIn w (w.alloc (.cells (instrC (o : Nat) (a : Nat) (b : Nat) (c : Nat) imm (d : Nat) true true) 23)) (instrC (o : Nat) (a : Nat) (b : Nat) (c : Nat) imm (d : Nat) true true)) := BoxIn.new w (instrC (o : Nat) (a : Nat) (b : Nat) (c : Nat) imm (d : Nat) true true)
  have HO : Hid _ := hO
  obtain ⟨lo, hi, st, hI⟩ := dimm_ok 15 (by decide) false (by decide) 15 rfl
  have HI : Hid _ := hI
  clear hI
  clear hO
  have ia : (a : Int) ≤ 31 := by omega
  have ib : (b : Int) ≤ 31 := by omega
  have ic : (c : Int) ≤ 31 := by omega
  have id' : (d : Int) ≤ 4095 := by omega
  have icc : (cc : Int) < 128 := by omega
  have if3 : (f3 : Int) < 8 := by omega
  have if7 : (f7 : Int) < 1024 := by omega
  have inn : (n : Int) < 4294967296 := by omega
  go_enter Tryz.func16, Tryz.ntmps16
  go_wp2_with fail
  refine (HO.out _).mono ?_
  rintro e w1 ⟨rfl, hb1⟩
  have S1 : Hid (BoxIn w w1 (instrC (o : Nat) (a : Nat) (b : Nat) (c : Nat) imm (d : Nat) true true)) := S0.out.step hb1
  obtain ⟨q0, q1, q2, q3, q4, q5, q6, q7⟩ := box8_facts S1.out.2
  have l1 : w.heap.size < w1.heap.size := (Array.getElem?_eq_some_iff.1 S1.out.2).1
  have X1 : Hid _ := heap_alloc_new w1 (.cells #[.string s, .int .i64 15, .int .i64 (cc : Nat), .int .i64 (f3 : Nat), .int .i64 (f7 : Nat)] 72)
  have S2 : Hid (BoxIn w (w1.alloc (.cells #[.string s, .int .i64 15, .int .i64 (cc : Nat), .int .i64 (f3 : Nat), .int .i64 (f7 : Nat)] 72)) (instrC (o : Nat) (a : Nat) (b : Nat) (c : Nat) imm (d : Nat) true true)) := S1.out.alloc _
  clear hb1
  go_wp2_with fail
  refine (in2b 15 1 2 _ _ (by simp) false (by decide) ).mono ?_
  rintro e w2 ⟨rfl, hb2⟩
  have S3 : Hid (BoxIn w w2 (instrC (o : Nat) (a : Nat) (b : Nat) (c : Nat) imm (d : Nat) true true)) := S2.out.step hb2
  have X2 : Hid _ := below_box X1.out hb2
  have l2 : w1.heap.size < w2.heap.size := (Array.getElem?_eq_some_iff.1 X2.out).1
  obtain ⟨r0, r1, r2, r3, r4, r5, r6, r7⟩ := box8_facts S3.out.2
  obtain ⟨z0, z1, z2, z3, z4⟩ := box5_facts X2.out
  clear hb2 X1 S2 S1 S0 q0 q1 q2 q3 q4 q5 q6 q7
  go_wp2_with (first | (go_at_call 47; refine (HI.out _).mono ?_; rintro e w' ⟨rfl, hw⟩; rw [hw]; clear hw))
  go_ret
  exact ⟨ret64 (by have e := fin_word_15_tt cc a b c d f3 0 f7; omega), S3.out.1⟩
end Go.Proofs.YtooaafbdjnlmfaaGreatDoor



namespace Go.Proofs.YtooaafbdjnlmfaaGreatDoor
open Go.RowKit
set_option linter.unusedVariables false
set_option linter.unusedSimpArgs false
theorem dR4_eq (g : Nat) (imm : Int) : dR4 g imm = decide ((docSpan g).1.1 ≤ imm ∧ imm ≤ (docSpan g).1.2.1 ∧ imm % (docSpan g).1.2.2 = 0) := rfl
/-- the document's Right is the program's -/
theorem dright_any (op rd rs1 rs2 imm csr : Int) (aq rl : Bool) (w : World) :
    Calls Tryz.prog 30 #[.agg (instrC op rd rs1 rs2 imm csr aq rl)] w fun e w' => e = .returned (.bool (rightB op rd rs1 rs2 imm csr aq rl)) ∧ Below w.heap.size w w' := by
  by_cases h : 1 ≤ op ∧ op ≤ 98
  · obtain ⟨o, rfl⟩ : ∃ o : Nat, op = o := ⟨op.toNat, by omega⟩
    have ho1 : 1 ≤ o := by omega
    have ho2 : o < 99 := by omega
    have hf := forms_lt o ho2
    have hz := forms_pos o ho2 ho1
    have hfo : formI (o : Nat) = formsT.getD o 0 := by unfold formI; rw [if_pos h, Int.toNat_natCast]
    refine dright_raw (o : Nat) rd rs1 rs2 imm csr (dForm o) aq rl (dName (o - 1)) (dCode o : Nat) (dF3 o : Nat) (dF7 o : Nat) h.1 h.2 (rows_small o ho2).1 w (fun w => of_op o ho1 ho2 w) _ ?_
    unfold rightB
    rw [hfo, rows_forms o ho2 ho1, decide_eq_true hz, parts_eq _ hf hz, ← r4_eq _ hf]
    simp only [Bool.true_and, Bool.and_assoc]
  · have hfo : formI op = 0 := by unfold formI; rw [if_neg h]
    have hr : rightB op rd rs1 rs2 imm csr aq rl = false := by unfold rightB; rw [hfo]; rfl
    rw [hr]
    exact dright_none op rd rs1 rs2 imm csr aq rl h w
theorem regroup (c A B C D t n s q r : Nat) : c + A + B + C + D + t + n + s + q + r = (c + t + s) + (A + B + C + D + q + r) + n := by omega
/-- the sum of the document is the program's -/
theorem sum_eq (o a b c d : Nat) (aq rl : Bool) (n U : Nat) (h1 : 1 ≤ o) (h2 : o < 99) (hn : n = immP (formsT.getD o 0) U) : dSum (dForm o) (dCode o) a b c d (dF3 o) n (dF7 o) aq rl = encS o a b c d aq rl U := by
  unfold dSum encS partsS
  rw [rows_words o h2 h1, ← hn]
  exact regroup _ _ _ _ _ _ _ _ _ _
theorem getI_0 (U : Nat) (n : Int) : getI U 0 n = U % 2 ^ n.toNat := by unfold getI; simp
theorem nums (U : Nat) : getI U 12 20 = U / 4096 % 1048576 ∧ getI U 20 1 = U / 1048576 % 2 ∧ getI U 1 10 = U / 2 % 1024 ∧ getI U 11 1 = U / 2048 % 2 ∧ getI U 12 8 = U / 4096 % 256 ∧ getI U 12 1 = U / 4096 % 2 ∧ getI U 5 6 = U / 32 % 64 ∧ getI U 1 4 = U / 2 % 16 ∧ getI U 5 7 = U / 32 % 128 := ⟨rfl, rfl, rfl, rfl, rfl, rfl, rfl, rfl, rfl⟩
theorem nums0 (U : Nat) : getI U 0 5 = U % 32 ∧ getI U 0 12 = U % 4096 ∧ getI U 0 6 = U % 64 := ⟨getI_0 U 5, getI_0 U 12, getI_0 U 6⟩
theorem same_mul {a b : Nat} (k : Nat) (h : a = b) : a * k = b * k := by rw [h]
theorem numP_1 (U : Nat) (imm : Int) (hU : (U : Int) = imm % 18446744073709551616) (h0 : -2147483648 ≤ imm) (h1 : imm ≤ 2147479552) (h2 : imm % 4096 = 0) : dNumI 1 U = immP 1 U := by
  rw [immP_1 U imm hU h0 h1 h2]
  unfold dNumI
  rw [if_pos (show (docSpan 1).2 = true by decide), dNum_1, (nums U).1]
  exact same_mul 4096 (by omega)
theorem numP_2 (U : Nat) (imm : Int) (hU : (U : Int) = imm % 18446744073709551616) (h0 : -1048576 ≤ imm) (h1 : imm ≤ 1048574) (h2 : imm % 2 = 0) : dNumI 2 U = immP 2 U := by
  rw [immP_2 U imm hU h0 h1 h2]
  unfold dNumI
  rw [if_pos (show (docSpan 2).2 = true by decide), dNum_2, (nums U).2.1, (nums U).2.2.1, (nums U).2.2.2.1, (nums U).2.2.2.2.1]
theorem numP_3 (U : Nat) (imm : Int) (hU : (U : Int) = imm % 18446744073709551616) (h0 : -2048 ≤ imm) (h1 : imm ≤ 2047) (h2 : imm % 1 = 0) : dNumI 3 U = immP 3 U := by
  rw [immP_3 U imm hU h0 h1 h2]
  unfold dNumI
  rw [if_pos (show (docSpan 3).2 = true by decide), dNum_3, (nums0 U).2.1]
theorem numP_4 (U : Nat) (imm : Int) (hU : (U : Int) = imm % 18446744073709551616) (h0 : -2048 ≤ imm) (h1 : imm ≤ 2047) (h2 : imm % 1 = 0) : dNumI 5 U = immP 4 U := by
  rw [immP_4 U imm hU h0 h1 h2]
  unfold dNumI
  rw [if_pos (show (docSpan 5).2 = true by decide), dNum_5, (nums0 U).2.1]
theorem numP_5 (U : Nat) (imm : Int) (hU : (U : Int) = imm % 18446744073709551616) (h0 : -4096 ≤ imm) (h1 : imm ≤ 4094) (h2 : imm % 2 = 0) : dNumI 4 U = immP 5 U := by
  rw [immP_5 U imm hU h0 h1 h2]
  unfold dNumI
  rw [if_pos (show (docSpan 4).2 = true by decide), dNum_4, (nums U).2.2.2.2.2.1, (nums U).2.2.2.2.2.2.1, (nums U).2.2.2.2.2.2.2.1, (nums U).2.2.2.1]
theorem numP_6 (U : Nat) (imm : Int) (hU : (U : Int) = imm % 18446744073709551616) (h0 : -2048 ≤ imm) (h1 : imm ≤ 2047) (h2 : imm % 1 = 0) : dNumI 6 U = immP 6 U := by
  rw [immP_6 U imm hU h0 h1 h2]
  unfold dNumI
  rw [if_pos (show (docSpan 6).2 = true by decide), dNum_6, (nums U).2.2.2.2.2.2.2.2, (nums0 U).1]
theorem numP_7 (U : Nat) (imm : Int) (hU : (U : Int) = imm % 18446744073709551616) (h0 : 0 ≤ imm) (h1 : imm ≤ 63) (h2 : imm % 1 = 0) : dNumI 7 U = immP 7 U := by
  rw [immP_7 U imm hU h0 h1 h2]
  unfold dNumI
  rw [if_pos (show (docSpan 7).2 = true by decide), dNum_7, (nums0 U).2.2]
  exact same_mul 1048576 (by omega)
theorem numP_8 (U : Nat) (imm : Int) (hU : (U : Int) = imm % 18446744073709551616) (h0 : 0 ≤ imm) (h1 : imm ≤ 31) (h2 : imm % 1 = 0) : dNumI 8 U = immP 8 U := by
  rw [immP_8 U imm hU h0 h1 h2]
  unfold dNumI
  rw [if_pos (show (docSpan 8).2 = true by decide), dNum_8, (nums0 U).2.2]
  exact same_mul 1048576 (by omega)
theorem numP_9 (U : Nat) (imm : Int) (hU : (U : Int) = imm % 18446744073709551616) (h0 : 0 ≤ imm) (h1 : imm ≤ 0) (h2 : imm % 1 = 0) : dNumI 9 U = immP 9 U := by
  rw [immP_9 U imm hU h0 h1 h2]
  unfold dNumI
  rw [if_neg (show ¬ (docSpan 9).2 = true by decide)]
theorem numP_10 (U : Nat) (imm : Int) (hU : (U : Int) = imm % 18446744073709551616) (h0 : 0 ≤ imm) (h1 : imm ≤ 4095) (h2 : imm % 1 = 0) : dNumI 10 U = immP 10 U := by
  rw [immP_10 U imm hU h0 h1 h2]
  unfold dNumI
  rw [if_pos (show (docSpan 10).2 = true by decide), dNum_10, (nums0 U).2.1]
theorem numP_11 (U : Nat) (imm : Int) (hU : (U : Int) = imm % 18446744073709551616) (h0 : 0 ≤ imm) (h1 : imm ≤ 0) (h2 : imm % 1 = 0) : dNumI 11 U = immP 11 U := by
  rw [immP_11 U imm hU h0 h1 h2]
  unfold dNumI
  rw [if_neg (show ¬ (docSpan 11).2 = true by decide)]
theorem numP_12 (U : Nat) (imm : Int) (hU : (U : Int) = imm % 18446744073709551616) (h0 : 0 ≤ imm) (h1 : imm ≤ 0) (h2 : imm % 1 = 0) : dNumI 12 U = immP 12 U := by
  rw [immP_12 U imm hU h0 h1 h2]
  unfold dNumI
  rw [if_neg (show ¬ (docSpan 12).2 = true by decide)]
theorem numP_13 (U : Nat) (imm : Int) (hU : (U : Int) = imm % 18446744073709551616) (h0 : 0 ≤ imm) (h1 : imm ≤ 31) (h2 : imm % 1 = 0) : dNumI 13 U = immP 13 U := by
  rw [immP_13 U imm hU h0 h1 h2]
  unfold dNumI
  rw [if_pos (show (docSpan 13).2 = true by decide), dNum_13, (nums0 U).1]
  exact same_mul 32768 (by omega)
theorem numP_14 (U : Nat) (imm : Int) (hU : (U : Int) = imm % 18446744073709551616) (h0 : 0 ≤ imm) (h1 : imm ≤ 0) (h2 : imm % 1 = 0) : dNumI 14 U = immP 14 U := by
  rw [immP_14 U imm hU h0 h1 h2]
  unfold dNumI
  rw [if_neg (show ¬ (docSpan 14).2 = true by decide)]
theorem numP_15 (U : Nat) (imm : Int) (hU : (U : Int) = imm % 18446744073709551616) (h0 : 0 ≤ imm) (h1 : imm ≤ 0) (h2 : imm % 1 = 0) : dNumI 15 U = immP 15 U := by
  rw [immP_15 U imm hU h0 h1 h2]
  unfold dNumI
  rw [if_neg (show ¬ (docSpan 15).2 = true by decide)]
theorem numP_16 (U : Nat) (imm : Int) (hU : (U : Int) = imm % 18446744073709551616) (h0 : 0 ≤ imm) (h1 : imm ≤ 0) (h2 : imm % 1 = 0) : dNumI 16 U = immP 16 U := by
  rw [immP_16 U imm hU h0 h1 h2]
  unfold dNumI
  rw [if_neg (show ¬ (docSpan 16).2 = true by decide)]
theorem num_eq (f : Nat) (hf : f < 17) (hz : f ≠ 0) (imm : Int) (U : Nat) (hU : (U : Int) = imm % 18446744073709551616) (hi : immB f imm = true) : dNumI (dF f) U = immP f U := by
  have hi := of_decide_eq_true hi
  have hcs : f = 1 ∨ f = 2 ∨ f = 3 ∨ f = 4 ∨ f = 5 ∨ f = 6 ∨ f = 7 ∨ f = 8 ∨ f = 9 ∨ f = 10 ∨ f = 11 ∨ f = 12 ∨ f = 13 ∨ f = 14 ∨ f = 15 ∨ f = 16 := by
    clear hU hi
    omega
  rcases hcs with rfl | rfl | rfl | rfl | rfl | rfl | rfl | rfl | rfl | rfl | rfl | rfl | rfl | rfl | rfl | rfl
  · exact numP_1 U imm hU hi.1 hi.2.1 hi.2.2
  · exact numP_2 U imm hU hi.1 hi.2.1 hi.2.2
  · exact numP_3 U imm hU hi.1 hi.2.1 hi.2.2
  · exact numP_4 U imm hU hi.1 hi.2.1 hi.2.2
  · exact numP_5 U imm hU hi.1 hi.2.1 hi.2.2
  · exact numP_6 U imm hU hi.1 hi.2.1 hi.2.2
  · exact numP_7 U imm hU hi.1 hi.2.1 hi.2.2
  · exact numP_8 U imm hU hi.1 hi.2.1 hi.2.2
  · exact numP_9 U imm hU hi.1 hi.2.1 hi.2.2
  · exact numP_10 U imm hU hi.1 hi.2.1 hi.2.2
  · exact numP_11 U imm hU hi.1 hi.2.1 hi.2.2
  · exact numP_12 U imm hU hi.1 hi.2.1 hi.2.2
  · exact numP_13 U imm hU hi.1 hi.2.1 hi.2.2
  · exact numP_14 U imm hU hi.1 hi.2.1 hi.2.2
  · exact numP_15 U imm hU hi.1 hi.2.1 hi.2.2
  · exact numP_16 U imm hU hi.1 hi.2.1 hi.2.2
/-- a right instruction's parts are small, and Aq and Rl are false but of atomic ones -/
theorem right_small (f a b c d : Nat) (aq rl : Bool) (hf : f < 17) (hz : f ≠ 0) (hp : partsB f a b c d aq rl = true) : a ≤ 31 ∧ b ≤ 31 ∧ c ≤ 31 ∧ d ≤ 4095 ∧ (hasO (dF f : Nat) = false → aq = false ∧ rl = false) := by
  rw [parts_eq f hf hz] at hp
  simp only [Bool.and_eq_true] at hp
  have h1 := of_decide_eq_true hp.1
  refine ⟨by omega, by omega, by omega, by omega, fun ho => ?_⟩
  have h3 := hp.2.2
  unfold dR3 at h3
  rw [ho] at h3
  cases aq <;> cases rl <;> simp at h3 <;> exact ⟨rfl, rfl⟩
theorem num_le (o a b c d : Nat) (aq rl : Bool) (U : Nat) (h : encS o a b c d aq rl U < 4294967296) : immP (formsT.getD o 0) U < 4294967296 := by
  unfold encS at h
  exact Nat.lt_of_le_of_lt (Nat.le_add_left _ _) h
/-- the document's Word is the program's Encode -/
theorem dword_any (o a b c d : Nat) (imm : Int) (aq rl : Bool) (U : Nat) (hU : (U : Int) = imm % 18446744073709551616) (h1 : 1 ≤ o) (h2 : o < 99) (hp : partsB (formsT.getD o 0) a b c d aq rl = true) (hi : immB (formsT.getD o 0) imm = true) (w : World) :
    Calls Tryz.prog 16 #[.agg (instrC (o : Nat) (a : Nat) (b : Nat) (c : Nat) imm (d : Nat) aq rl)] w fun e w' => e = .returned (.int .i64 (encS o a b c d aq rl U : Nat)) ∧ Below w.heap.size w w' := by
  have hf := forms_lt o h2
  have hz := forms_pos o h2 h1
  obtain ⟨la, lb, lc, ld, lo⟩ := right_small _ a b c d aq rl hf hz hp
  have hx := (decoded o a b c d imm aq rl U hU h1 h2 hp hi).1
  have hnl := num_le o a b c d aq rl U hx
  have hne := num_eq _ hf hz imm U hU hi
  rw [← hne] at hnl
  rw [← rows_forms o h2 h1] at hne hnl lo
  have hs := sum_eq o a b c d aq rl (dNumI (dForm o) U) U h1 h2 hne
  rw [← hs]
  clear hs hx hne hp hi
  have hUw : IntKind.u64.wrap imm = (U : Int) := by rw [wrap_u64]; omega
  have hU64 : U < 18446744073709551616 := by omega
  obtain ⟨k0, k1, k2, k3⟩ := rows_small o h2
  have kp := rows_pos o h2 h1
  have hO := fun w => of_op o h1 h2 w
  have hcs : dForm o = 1 ∨ dForm o = 2 ∨ dForm o = 3 ∨ dForm o = 4 ∨ dForm o = 5 ∨ dForm o = 6 ∨ dForm o = 7 ∨ dForm o = 8 ∨ dForm o = 9 ∨ dForm o = 10 ∨ dForm o = 11 ∨ dForm o = 12 ∨ dForm o = 13 ∨ dForm o = 14 ∨ dForm o = 15 ∨ dForm o = 16 := by omega
  generalize dForm o = g at *
  generalize dCode o = cc at *
  generalize dF3 o = f3 at *
  generalize dF7 o = f7 at *
  rcases hcs with rfl | rfl | rfl | rfl | rfl | rfl | rfl | rfl | rfl | rfl | rfl | rfl | rfl | rfl | rfl | rfl
  · rw [show dNumI 1 U = dNum 1 U from if_pos (by decide)] at hnl ⊢
    obtain ⟨rfl, rfl⟩ := lo (by decide)
    exact word_1 o a b c d cc f3 f7 (dNum 1 U) imm (dName (o - 1)) la lb lc ld k1 k2 k3 hnl w hO (fun w => num_any 1 (by decide) imm U hUw hU64 w)
  · rw [show dNumI 2 U = dNum 2 U from if_pos (by decide)] at hnl ⊢
    obtain ⟨rfl, rfl⟩ := lo (by decide)
    exact word_2 o a b c d cc f3 f7 (dNum 2 U) imm (dName (o - 1)) la lb lc ld k1 k2 k3 hnl w hO (fun w => num_any 2 (by decide) imm U hUw hU64 w)
  · rw [show dNumI 3 U = dNum 3 U from if_pos (by decide)] at hnl ⊢
    obtain ⟨rfl, rfl⟩ := lo (by decide)
    exact word_3 o a b c d cc f3 f7 (dNum 3 U) imm (dName (o - 1)) la lb lc ld k1 k2 k3 hnl w hO (fun w => num_any 3 (by decide) imm U hUw hU64 w)
  · rw [show dNumI 4 U = dNum 4 U from if_pos (by decide)] at hnl ⊢
    obtain ⟨rfl, rfl⟩ := lo (by decide)
    exact word_4 o a b c d cc f3 f7 (dNum 4 U) imm (dName (o - 1)) la lb lc ld k1 k2 k3 hnl w hO (fun w => num_any 4 (by decide) imm U hUw hU64 w)
  · rw [show dNumI 5 U = dNum 5 U from if_pos (by decide)] at hnl ⊢
    obtain ⟨rfl, rfl⟩ := lo (by decide)
    exact word_5 o a b c d cc f3 f7 (dNum 5 U) imm (dName (o - 1)) la lb lc ld k1 k2 k3 hnl w hO (fun w => num_any 5 (by decide) imm U hUw hU64 w)
  · rw [show dNumI 6 U = dNum 6 U from if_pos (by decide)] at hnl ⊢
    obtain ⟨rfl, rfl⟩ := lo (by decide)
    exact word_6 o a b c d cc f3 f7 (dNum 6 U) imm (dName (o - 1)) la lb lc ld k1 k2 k3 hnl w hO (fun w => num_any 6 (by decide) imm U hUw hU64 w)
  · rw [show dNumI 7 U = dNum 7 U from if_pos (by decide)] at hnl ⊢
    obtain ⟨rfl, rfl⟩ := lo (by decide)
    exact word_7 o a b c d cc f3 f7 (dNum 7 U) imm (dName (o - 1)) la lb lc ld k1 k2 k3 hnl w hO (fun w => num_any 7 (by decide) imm U hUw hU64 w)
  · rw [show dNumI 8 U = dNum 8 U from if_pos (by decide)] at hnl ⊢
    obtain ⟨rfl, rfl⟩ := lo (by decide)
    exact word_8 o a b c d cc f3 f7 (dNum 8 U) imm (dName (o - 1)) la lb lc ld k1 k2 k3 hnl w hO (fun w => num_any 8 (by decide) imm U hUw hU64 w)
  · rw [show dNumI 9 U = 0 from if_neg (by decide)] at hnl ⊢
    obtain ⟨rfl, rfl⟩ := lo (by decide)
    exact word_9 o a b c d cc f3 f7 0 imm (dName (o - 1)) la lb lc ld k1 k2 k3 hnl w hO
  · rw [show dNumI 10 U = dNum 10 U from if_pos (by decide)] at hnl ⊢
    obtain ⟨rfl, rfl⟩ := lo (by decide)
    exact word_10 o a b c d cc f3 f7 (dNum 10 U) imm (dName (o - 1)) la lb lc ld k1 k2 k3 hnl w hO (fun w => num_any 10 (by decide) imm U hUw hU64 w)
  · rw [show dNumI 11 U = 0 from if_neg (by decide)] at hnl ⊢
    obtain ⟨rfl, rfl⟩ := lo (by decide)
    exact word_11 o a b c d cc f3 f7 0 imm (dName (o - 1)) la lb lc ld k1 k2 k3 hnl w hO
  · rw [show dNumI 12 U = 0 from if_neg (by decide)] at hnl ⊢
    obtain ⟨rfl, rfl⟩ := lo (by decide)
    exact word_12 o a b c d cc f3 f7 0 imm (dName (o - 1)) la lb lc ld k1 k2 k3 hnl w hO
  · rw [show dNumI 13 U = dNum 13 U from if_pos (by decide)] at hnl ⊢
    obtain ⟨rfl, rfl⟩ := lo (by decide)
    exact word_13 o a b c d cc f3 f7 (dNum 13 U) imm (dName (o - 1)) la lb lc ld k1 k2 k3 hnl w hO (fun w => num_any 13 (by decide) imm U hUw hU64 w)
  · rw [show dNumI 14 U = 0 from if_neg (by decide)] at hnl ⊢
    cases aq <;> cases rl
    · exact word_14_ff o a b c d cc f3 f7 0 imm (dName (o - 1)) la lb lc ld k1 k2 k3 hnl w hO
    · exact word_14_ft o a b c d cc f3 f7 0 imm (dName (o - 1)) la lb lc ld k1 k2 k3 hnl w hO
    · exact word_14_tf o a b c d cc f3 f7 0 imm (dName (o - 1)) la lb lc ld k1 k2 k3 hnl w hO
    · exact word_14_tt o a b c d cc f3 f7 0 imm (dName (o - 1)) la lb lc ld k1 k2 k3 hnl w hO
  · rw [show dNumI 15 U = 0 from if_neg (by decide)] at hnl ⊢
    cases aq <;> cases rl
    · exact word_15_ff o a b c d cc f3 f7 0 imm (dName (o - 1)) la lb lc ld k1 k2 k3 hnl w hO
    · exact word_15_ft o a b c d cc f3 f7 0 imm (dName (o - 1)) la lb lc ld k1 k2 k3 hnl w hO
    · exact word_15_tf o a b c d cc f3 f7 0 imm (dName (o - 1)) la lb lc ld k1 k2 k3 hnl w hO
    · exact word_15_tt o a b c d cc f3 f7 0 imm (dName (o - 1)) la lb lc ld k1 k2 k3 hnl w hO
  · rw [show dNumI 16 U = 0 from if_neg (by decide)] at hnl ⊢
    obtain ⟨rfl, rfl⟩ := lo (by decide)
    exact word_16 o a b c d cc f3 f7 0 imm (dName (o - 1)) la lb lc ld k1 k2 k3 hnl w hO
end Go.Proofs.YtooaafbdjnlmfaaGreatDoor
