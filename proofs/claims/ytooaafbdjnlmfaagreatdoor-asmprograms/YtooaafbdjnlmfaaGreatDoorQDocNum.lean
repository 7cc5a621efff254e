/- The document's call number of layer 3: what a number adds to a word. -/
import Derived.Test.YtooaafbdjnlmfaaGreatDoorQDocRowsW
import Derived.Test.YtooaafbdjnlmfaaGreatDoorQOut
namespace Go.Proofs.YtooaafbdjnlmfaaGreatDoor
open Go.RowKit
set_option linter.unusedVariables false
set_option linter.unusedSimpArgs false
theorem part_ex (v : Int) (U : Nat) (hU : IntKind.u64.wrap v = (U : Int)) (hx : U < 18446744073709551616) (a n t : Int) (K : Nat) (h0 : 0 ≤ a) (h1 : a ≤ 63) (h2 : 0 ≤ n) (h3 : n ≤ 20) (h4 : 0 ≤ t) (h5 : t ≤ 31) (hK : 2 ^ t.toNat = K) (hm : 2 ^ n.toNat * K ≤ 4294967296) (w : World) :
    Calls Tryz.prog 88 #[.int .i64 v, .int .i64 a, .int .i64 n, .int .i64 t] w fun e w' => ∃ p : Nat, e = .returned (.int .i64 (p : Nat)) ∧ Hid (p = getI U a n * K) ∧ (p : Int) < 4294967296 ∧ Below w.heap.size w w' := by
  refine (part_any v U hU hx a n t h0 h1 h2 h3 h4 h5 w).mono ?_
  rintro e w' ⟨rfl, hb⟩
  rw [hK]
  have hl : getI U a n * K < 4294967296 := by
    rcases Nat.eq_zero_or_pos K with h | h
    · rw [h]; omega
    · exact Nat.lt_of_lt_of_le (Nat.mul_lt_mul_of_pos_right (getI_lt U a n) h) hm
  exact ⟨_, rfl, rfl, by omega, hb⟩
/-- what a number adds to a word, by the document's number of its form -/
def dNum (g U : Nat) : Nat := if g = 1 then getI U 12 20 * 4096 else if g = 2 then getI U 20 1 * 2147483648 + getI U 1 10 * 2097152 + getI U 11 1 * 1048576 + getI U 12 8 * 4096 else if g = 4 then getI U 12 1 * 2147483648 + getI U 5 6 * 33554432 + getI U 1 4 * 256 + getI U 11 1 * 128 else if g = 6 then getI U 5 7 * 33554432 + getI U 0 5 * 128 else if g = 13 then getI U 0 5 * 32768 else if g = 3 ∨ g = 5 ∨ g = 10 then getI U 0 12 * 1048576 else getI U 0 6 * 1048576
theorem dNum_1 (U : Nat) : dNum 1 U = getI U 12 20 * 4096 := by unfold dNum; rw [if_pos rfl]
theorem dNum_2 (U : Nat) : dNum 2 U = getI U 20 1 * 2147483648 + getI U 1 10 * 2097152 + getI U 11 1 * 1048576 + getI U 12 8 * 4096 := by unfold dNum; rw [if_neg (show ¬ (2 : Nat) = 1 by decide), if_pos rfl]
theorem dNum_3 (U : Nat) : dNum 3 U = getI U 0 12 * 1048576 := by unfold dNum; rw [if_neg (show ¬ (3 : Nat) = 1 by decide), if_neg (show ¬ (3 : Nat) = 2 by decide), if_neg (show ¬ (3 : Nat) = 4 by decide), if_neg (show ¬ (3 : Nat) = 6 by decide), if_neg (show ¬ (3 : Nat) = 13 by decide), if_pos (show (3 : Nat) = 3 ∨ (3 : Nat) = 5 ∨ (3 : Nat) = 10 by decide)]
theorem dNum_4 (U : Nat) : dNum 4 U = getI U 12 1 * 2147483648 + getI U 5 6 * 33554432 + getI U 1 4 * 256 + getI U 11 1 * 128 := by unfold dNum; rw [if_neg (show ¬ (4 : Nat) = 1 by decide), if_neg (show ¬ (4 : Nat) = 2 by decide), if_pos rfl]
theorem dNum_5 (U : Nat) : dNum 5 U = getI U 0 12 * 1048576 := by unfold dNum; rw [if_neg (show ¬ (5 : Nat) = 1 by decide), if_neg (show ¬ (5 : Nat) = 2 by decide), if_neg (show ¬ (5 : Nat) = 4 by decide), if_neg (show ¬ (5 : Nat) = 6 by decide), if_neg (show ¬ (5 : Nat) = 13 by decide), if_pos (show (5 : Nat) = 3 ∨ (5 : Nat) = 5 ∨ (5 : Nat) = 10 by decide)]
theorem dNum_6 (U : Nat) : dNum 6 U = getI U 5 7 * 33554432 + getI U 0 5 * 128 := by unfold dNum; rw [if_neg (show ¬ (6 : Nat) = 1 by decide), if_neg (show ¬ (6 : Nat) = 2 by decide), if_neg (show ¬ (6 : Nat) = 4 by decide), if_pos rfl]
theorem dNum_7 (U : Nat) : dNum 7 U = getI U 0 6 * 1048576 := by unfold dNum; rw [if_neg (show ¬ (7 : Nat) = 1 by decide), if_neg (show ¬ (7 : Nat) = 2 by decide), if_neg (show ¬ (7 : Nat) = 4 by decide), if_neg (show ¬ (7 : Nat) = 6 by decide), if_neg (show ¬ (7 : Nat) = 13 by decide), if_neg (show ¬ ((7 : Nat) = 3 ∨ (7 : Nat) = 5 ∨ (7 : Nat) = 10) by decide)]
theorem dNum_8 (U : Nat) : dNum 8 U = getI U 0 6 * 1048576 := by unfold dNum; rw [if_neg (show ¬ (8 : Nat) = 1 by decide), if_neg (show ¬ (8 : Nat) = 2 by decide), if_neg (show ¬ (8 : Nat) = 4 by decide), if_neg (show ¬ (8 : Nat) = 6 by decide), if_neg (show ¬ (8 : Nat) = 13 by decide), if_neg (show ¬ ((8 : Nat) = 3 ∨ (8 : Nat) = 5 ∨ (8 : Nat) = 10) by decide)]
theorem dNum_10 (U : Nat) : dNum 10 U = getI U 0 12 * 1048576 := by unfold dNum; rw [if_neg (show ¬ (10 : Nat) = 1 by decide), if_neg (show ¬ (10 : Nat) = 2 by decide), if_neg (show ¬ (10 : Nat) = 4 by decide), if_neg (show ¬ (10 : Nat) = 6 by decide), if_neg (show ¬ (10 : Nat) = 13 by decide), if_pos (show (10 : Nat) = 3 ∨ (10 : Nat) = 5 ∨ (10 : Nat) = 10 by decide)]
theorem dNum_13 (U : Nat) : dNum 13 U = getI U 0 5 * 32768 := by unfold dNum; rw [if_neg (show ¬ (13 : Nat) = 1 by decide), if_neg (show ¬ (13 : Nat) = 2 by decide), if_neg (show ¬ (13 : Nat) = 4 by decide), if_neg (show ¬ (13 : Nat) = 6 by decide), if_pos rfl]
set_option maxRecDepth 100000 in
set_option maxHeartbeats 400000 in
theorem num_1 (v : Int) (U : Nat) (hU : IntKind.u64.wrap v = (U : Int)) (hx : U < 18446744073709551616) (w : World) :
    Calls Tryz.prog 48 #[.int .i64 1, .int .i64 v] w fun e w' => e = .returned (.int .i64 (dNum 1 U : Nat)) ∧ Below w.heap.size w w' := by
  have B0 : Hid (Below w.heap.size w w) := Below.refl _ _
  have HU : Hid _ := hU
  clear hU
  go_enter Tryz.func48, Tryz.ntmps48
  go_wp2_with fail
  refine (part_ex v U HU.out hx 12 20 12 4096 (by decide) (by decide) (by decide) (by decide) (by decide) (by decide) (by decide) (by decide) _).mono ?_
  rintro e w1 ⟨p1, rfl, H1, l1, hb⟩
  have B1 : Hid (Below w.heap.size w w1) := B0.out.trans (hb.mono B0.out.size)
  clear hb
  go_wp2
  go_ret
  exact ⟨ret64 (by rw [dNum_1]; have e1 := H1.out; omega), B1.out⟩
set_option maxRecDepth 100000 in
set_option maxHeartbeats 400000 in
theorem num_2 (v : Int) (U : Nat) (hU : IntKind.u64.wrap v = (U : Int)) (hx : U < 18446744073709551616) (w : World) :
    Calls Tryz.prog 48 #[.int .i64 2, .int .i64 v] w fun e w' => e = .returned (.int .i64 (dNum 2 U : Nat)) ∧ Below w.heap.size w w' := by
  have B0 : Hid (Below w.heap.size w w) := Below.refl _ _
  have HU : Hid _ := hU
  clear hU
  go_enter Tryz.func48, Tryz.ntmps48
  go_wp2_with fail
  refine (part_ex v U HU.out hx 20 1 31 2147483648 (by decide) (by decide) (by decide) (by decide) (by decide) (by decide) (by decide) (by decide) _).mono ?_
  rintro e w1 ⟨p1, rfl, H1, l1, hb⟩
  have B1 : Hid (Below w.heap.size w w1) := B0.out.trans (hb.mono B0.out.size)
  clear hb
  go_wp2_with fail
  refine (part_ex v U HU.out hx 1 10 21 2097152 (by decide) (by decide) (by decide) (by decide) (by decide) (by decide) (by decide) (by decide) _).mono ?_
  rintro e w2 ⟨p2, rfl, H2, l2, hb⟩
  have B2 : Hid (Below w.heap.size w w2) := B1.out.trans (hb.mono B1.out.size)
  clear hb
  go_wp2_with fail
  refine (part_ex v U HU.out hx 11 1 20 1048576 (by decide) (by decide) (by decide) (by decide) (by decide) (by decide) (by decide) (by decide) _).mono ?_
  rintro e w3 ⟨p3, rfl, H3, l3, hb⟩
  have B3 : Hid (Below w.heap.size w w3) := B2.out.trans (hb.mono B2.out.size)
  clear hb
  go_wp2_with fail
  refine (part_ex v U HU.out hx 12 8 12 4096 (by decide) (by decide) (by decide) (by decide) (by decide) (by decide) (by decide) (by decide) _).mono ?_
  rintro e w4 ⟨p4, rfl, H4, l4, hb⟩
  have B4 : Hid (Below w.heap.size w w4) := B3.out.trans (hb.mono B3.out.size)
  clear hb
  go_wp2
  go_ret
  exact ⟨ret64 (by rw [dNum_2]; have e1 := H1.out; have e2 := H2.out; have e3 := H3.out; have e4 := H4.out; omega), B4.out⟩
set_option maxRecDepth 100000 in
set_option maxHeartbeats 400000 in
theorem num_3 (v : Int) (U : Nat) (hU : IntKind.u64.wrap v = (U : Int)) (hx : U < 18446744073709551616) (w : World) :
    Calls Tryz.prog 48 #[.int .i64 3, .int .i64 v] w fun e w' => e = .returned (.int .i64 (dNum 3 U : Nat)) ∧ Below w.heap.size w w' := by
  have B0 : Hid (Below w.heap.size w w) := Below.refl _ _
  have HU : Hid _ := hU
  clear hU
  go_enter Tryz.func48, Tryz.ntmps48
  go_wp2_with fail
  refine (part_ex v U HU.out hx 0 12 20 1048576 (by decide) (by decide) (by decide) (by decide) (by decide) (by decide) (by decide) (by decide) _).mono ?_
  rintro e w1 ⟨p1, rfl, H1, l1, hb⟩
  have B1 : Hid (Below w.heap.size w w1) := B0.out.trans (hb.mono B0.out.size)
  clear hb
  go_wp2
  go_ret
  exact ⟨ret64 (by rw [dNum_3]; have e1 := H1.out; omega), B1.out⟩
set_option maxRecDepth 100000 in
set_option maxHeartbeats 400000 in
theorem num_4 (v : Int) (U : Nat) (hU : IntKind.u64.wrap v = (U : Int)) (hx : U < 18446744073709551616) (w : World) :
    Calls Tryz.prog 48 #[.int .i64 4, .int .i64 v] w fun e w' => e = .returned (.int .i64 (dNum 4 U : Nat)) ∧ Below w.heap.size w w' := by
  have B0 : Hid (Below w.heap.size w w) := Below.refl _ _
  have HU : Hid _ := hU
  clear hU
  go_enter Tryz.func48, Tryz.ntmps48
  go_wp2_with fail
  refine (part_ex v U HU.out hx 12 1 31 2147483648 (by decide) (by decide) (by decide) (by decide) (by decide) (by decide) (by decide) (by decide) _).mono ?_
  rintro e w1 ⟨p1, rfl, H1, l1, hb⟩
  have B1 : Hid (Below w.heap.size w w1) := B0.out.trans (hb.mono B0.out.size)
  clear hb
  go_wp2_with fail
  refine (part_ex v U HU.out hx 5 6 25 33554432 (by decide) (by decide) (by decide) (by decide) (by decide) (by decide) (by decide) (by decide) _).mono ?_
  rintro e w2 ⟨p2, rfl, H2, l2, hb⟩
  have B2 : Hid (Below w.heap.size w w2) := B1.out.trans (hb.mono B1.out.size)
  clear hb
  go_wp2_with fail
  refine (part_ex v U HU.out hx 1 4 8 256 (by decide) (by decide) (by decide) (by decide) (by decide) (by decide) (by decide) (by decide) _).mono ?_
  rintro e w3 ⟨p3, rfl, H3, l3, hb⟩
  have B3 : Hid (Below w.heap.size w w3) := B2.out.trans (hb.mono B2.out.size)
  clear hb
  go_wp2_with fail
  refine (part_ex v U HU.out hx 11 1 7 128 (by decide) (by decide) (by decide) (by decide) (by decide) (by decide) (by decide) (by decide) _).mono ?_
  rintro e w4 ⟨p4, rfl, H4, l4, hb⟩
  have B4 : Hid (Below w.heap.size w w4) := B3.out.trans (hb.mono B3.out.size)
  clear hb
  go_wp2
  go_ret
  exact ⟨ret64 (by rw [dNum_4]; have e1 := H1.out; have e2 := H2.out; have e3 := H3.out; have e4 := H4.out; omega), B4.out⟩
set_option maxRecDepth 100000 in
set_option maxHeartbeats 400000 in
theorem num_5 (v : Int) (U : Nat) (hU : IntKind.u64.wrap v = (U : Int)) (hx : U < 18446744073709551616) (w : World) :
    Calls Tryz.prog 48 #[.int .i64 5, .int .i64 v] w fun e w' => e = .returned (.int .i64 (dNum 5 U : Nat)) ∧ Below w.heap.size w w' := by
  have B0 : Hid (Below w.heap.size w w) := Below.refl _ _
  have HU : Hid _ := hU
  clear hU
  go_enter Tryz.func48, Tryz.ntmps48
  go_wp2_with fail
  refine (part_ex v U HU.out hx 0 12 20 1048576 (by decide) (by decide) (by decide) (by decide) (by decide) (by decide) (by decide) (by decide) _).mono ?_
  rintro e w1 ⟨p1, rfl, H1, l1, hb⟩
  have B1 : Hid (Below w.heap.size w w1) := B0.out.trans (hb.mono B0.out.size)
  clear hb
  go_wp2
  go_ret
  exact ⟨ret64 (by rw [dNum_5]; have e1 := H1.out; omega), B1.out⟩
set_option maxRecDepth 100000 in
set_option maxHeartbeats 400000 in
theorem num_6 (v : Int) (U : Nat) (hU : IntKind.u64.wrap v = (U : Int)) (hx : U < 18446744073709551616) (w : World) :
    Calls Tryz.prog 48 #[.int .i64 6, .int .i64 v] w fun e w' => e = .returned (.int .i64 (dNum 6 U : Nat)) ∧ Below w.heap.size w w' := by
  have B0 : Hid (Below w.heap.size w w) := Below.refl _ _
  have HU : Hid _ := hU
  clear hU
  go_enter Tryz.func48, Tryz.ntmps48
  go_wp2_with fail
  refine (part_ex v U HU.out hx 5 7 25 33554432 (by decide) (by decide) (by decide) (by decide) (by decide) (by decide) (by decide) (by decide) _).mono ?_
  rintro e w1 ⟨p1, rfl, H1, l1, hb⟩
  have B1 : Hid (Below w.heap.size w w1) := B0.out.trans (hb.mono B0.out.size)
  clear hb
  go_wp2_with fail
  refine (part_ex v U HU.out hx 0 5 7 128 (by decide) (by decide) (by decide) (by decide) (by decide) (by decide) (by decide) (by decide) _).mono ?_
  rintro e w2 ⟨p2, rfl, H2, l2, hb⟩
  have B2 : Hid (Below w.heap.size w w2) := B1.out.trans (hb.mono B1.out.size)
  clear hb
  go_wp2
  go_ret
  exact ⟨ret64 (by rw [dNum_6]; have e1 := H1.out; have e2 := H2.out; omega), B2.out⟩
set_option maxRecDepth 100000 in
set_option maxHeartbeats 400000 in
theorem num_7 (v : Int) (U : Nat) (hU : IntKind.u64.wrap v = (U : Int)) (hx : U < 18446744073709551616) (w : World) :
    Calls Tryz.prog 48 #[.int .i64 7, .int .i64 v] w fun e w' => e = .returned (.int .i64 (dNum 7 U : Nat)) ∧ Below w.heap.size w w' := by
  have B0 : Hid (Below w.heap.size w w) := Below.refl _ _
  have HU : Hid _ := hU
  clear hU
  go_enter Tryz.func48, Tryz.ntmps48
  go_wp2_with fail
  refine (part_ex v U HU.out hx 0 6 20 1048576 (by decide) (by decide) (by decide) (by decide) (by decide) (by decide) (by decide) (by decide) _).mono ?_
  rintro e w1 ⟨p1, rfl, H1, l1, hb⟩
  have B1 : Hid (Below w.heap.size w w1) := B0.out.trans (hb.mono B0.out.size)
  clear hb
  go_wp2
  go_ret
  exact ⟨ret64 (by rw [dNum_7]; have e1 := H1.out; omega), B1.out⟩
set_option maxRecDepth 100000 in
set_option maxHeartbeats 400000 in
theorem num_8 (v : Int) (U : Nat) (hU : IntKind.u64.wrap v = (U : Int)) (hx : U < 18446744073709551616) (w : World) :
    Calls Tryz.prog 48 #[.int .i64 8, .int .i64 v] w fun e w' => e = .returned (.int .i64 (dNum 8 U : Nat)) ∧ Below w.heap.size w w' := by
  have B0 : Hid (Below w.heap.size w w) := Below.refl _ _
  have HU : Hid _ := hU
  clear hU
  go_enter Tryz.func48, Tryz.ntmps48
  go_wp2_with fail
  refine (part_ex v U HU.out hx 0 6 20 1048576 (by decide) (by decide) (by decide) (by decide) (by decide) (by decide) (by decide) (by decide) _).mono ?_
  rintro e w1 ⟨p1, rfl, H1, l1, hb⟩
  have B1 : Hid (Below w.heap.size w w1) := B0.out.trans (hb.mono B0.out.size)
  clear hb
  go_wp2
  go_ret
  exact ⟨ret64 (by rw [dNum_8]; have e1 := H1.out; omega), B1.out⟩
set_option maxRecDepth 100000 in
set_option maxHeartbeats 400000 in
theorem num_10 (v : Int) (U : Nat) (hU : IntKind.u64.wrap v = (U : Int)) (hx : U < 18446744073709551616) (w : World) :
    Calls Tryz.prog 48 #[.int .i64 10, .int .i64 v] w fun e w' => e = .returned (.int .i64 (dNum 10 U : Nat)) ∧ Below w.heap.size w w' := by
  have B0 : Hid (Below w.heap.size w w) := Below.refl _ _
  have HU : Hid _ := hU
  clear hU
  go_enter Tryz.func48, Tryz.ntmps48
  go_wp2_with fail
  refine (part_ex v U HU.out hx 0 12 20 1048576 (by decide) (by decide) (by decide) (by decide) (by decide) (by decide) (by decide) (by decide) _).mono ?_
  rintro e w1 ⟨p1, rfl, H1, l1, hb⟩
  have B1 : Hid (Below w.heap.size w w1) := B0.out.trans (hb.mono B0.out.size)
  clear hb
  go_wp2
  go_ret
  exact ⟨ret64 (by rw [dNum_10]; have e1 := H1.out; omega), B1.out⟩
set_option maxRecDepth 100000 in
set_option maxHeartbeats 400000 in
theorem num_13 (v : Int) (U : Nat) (hU : IntKind.u64.wrap v = (U : Int)) (hx : U < 18446744073709551616) (w : World) :
    Calls Tryz.prog 48 #[.int .i64 13, .int .i64 v] w fun e w' => e = .returned (.int .i64 (dNum 13 U : Nat)) ∧ Below w.heap.size w w' := by
  have B0 : Hid (Below w.heap.size w w) := Below.refl _ _
  have HU : Hid _ := hU
  clear hU
  go_enter Tryz.func48, Tryz.ntmps48
  go_wp2_with fail
  refine (part_ex v U HU.out hx 0 5 15 32768 (by decide) (by decide) (by decide) (by decide) (by decide) (by decide) (by decide) (by decide) _).mono ?_
  rintro e w1 ⟨p1, rfl, H1, l1, hb⟩
  have B1 : Hid (Below w.heap.size w w1) := B0.out.trans (hb.mono B0.out.size)
  clear hb
  go_wp2
  go_ret
  exact ⟨ret64 (by rw [dNum_13]; have e1 := H1.out; omega), B1.out⟩
theorem num_any (g : Nat) (hg : (docSpan g).2 = true) (v : Int) (U : Nat) (hU : IntKind.u64.wrap v = (U : Int)) (hx : U < 18446744073709551616) (w : World) :
    Calls Tryz.prog 48 #[.int .i64 (g : Nat), .int .i64 v] w fun e w' => e = .returned (.int .i64 (dNum g U : Nat)) ∧ Below w.heap.size w w' := by
  have h : g = 1 ∨ g = 2 ∨ g = 3 ∨ g = 4 ∨ g = 5 ∨ g = 6 ∨ g = 7 ∨ g = 8 ∨ g = 10 ∨ g = 13 := by
    unfold docSpan at hg
    refine Classical.byContradiction fun hn => ?_
    simp only [not_or] at hn
    rw [if_neg hn.1, if_neg hn.2.1, if_neg hn.2.2.2.1, if_neg (by omega), if_neg hn.2.2.2.2.2.2.1, if_neg (by omega), if_neg hn.2.2.2.2.2.2.2.2.1] at hg
    cases hg
  rcases h with rfl | rfl | rfl | rfl | rfl | rfl | rfl | rfl | rfl | rfl
  · exact num_1 v U hU hx w
  · exact num_2 v U hU hx w
  · exact num_3 v U hU hx w
  · exact num_4 v U hU hx w
  · exact num_5 v U hU hx w
  · exact num_6 v U hU hx w
  · exact num_7 v U hU hx w
  · exact num_8 v U hU hx w
  · exact num_10 v U hU hx w
  · exact num_13 v U hU hx w
end Go.Proofs.YtooaafbdjnlmfaaGreatDoor
