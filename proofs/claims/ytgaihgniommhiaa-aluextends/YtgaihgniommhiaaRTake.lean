/- The document's calls Taken and Extend of layer 5, and the statements on them. -/
import Derived.Test.YtgaihgniommhiaaDoc2
namespace Go.Proofs.Ytgaihgniommhiaa
open Go.RowKit
set_option linter.unusedVariables false
set_option linter.unusedSimpArgs false
set_option maxHeartbeats 400000 in
theorem rtaken_5 (a b : Nat) (ha : a < 18446744073709551616) (hb : b < 18446744073709551616) (W w : World) (hw : Below W.heap.size W w) : Calls Try.prog 13 #[.int .i64 5, .int .u64 (a : Int), .int .u64 (b : Int)] w fun e w' => e = .returned (.bool (decide (a = b))) ∧ Below W.heap.size W w' := by
  by_cases h : a = b
  · subst h
    rw [decide_eq_true rfl]
    go_enter Try.func13, Try.ntmps13
    go_wp2_with fail
    go_ret
    exact ⟨ret_bool (by first | rfl | (simp; done) | (simp; omega)), hw⟩
  · have h1 : ((a : Int) == b) = false := by simpa using (show ¬ (a : Int) = b from by omega)
    have h2 : ¬ (a : Int) = b := by omega
    rw [decide_eq_false h]
    go_enter Try.func13, Try.ntmps13
    go_wp2_with fail
    go_ret
    exact ⟨ret_bool (by first | rfl | (simp; done) | (simp; omega)), hw⟩
set_option maxHeartbeats 400000 in
theorem rtaken_6 (a b : Nat) (ha : a < 18446744073709551616) (hb : b < 18446744073709551616) (W w : World) (hw : Below W.heap.size W w) : Calls Try.prog 13 #[.int .i64 6, .int .u64 (a : Int), .int .u64 (b : Int)] w fun e w' => e = .returned (.bool (!decide (a = b))) ∧ Below W.heap.size W w' := by
  by_cases h : a = b
  · subst h
    rw [decide_eq_true rfl]
    go_enter Try.func13, Try.ntmps13
    go_wp2_with fail
    go_ret
    exact ⟨ret_bool (by first | rfl | (simp; done) | (simp; omega)), hw⟩
  · have h1 : ((a : Int) == b) = false := by simpa using (show ¬ (a : Int) = b from by omega)
    have h2 : ¬ (a : Int) = b := by omega
    rw [decide_eq_false h]
    go_enter Try.func13, Try.ntmps13
    go_wp2_with fail
    go_ret
    exact ⟨ret_bool (by first | rfl | (simp; done) | (simp; omega)), hw⟩
set_option maxHeartbeats 400000 in
theorem rtaken_7 (a b : Nat) (ha : a < 18446744073709551616) (hb : b < 18446744073709551616) (W w : World) (hw : Below W.heap.size W w) : Calls Try.prog 13 #[.int .i64 7, .int .u64 (a : Int), .int .u64 (b : Int)] w fun e w' => e = .returned (.bool (decide (numI a < numI b))) ∧ Below W.heap.size W w' := by
  have HL : ∀ w, Below W.heap.size W w → Calls Try.prog 22 #[.int .u64 (a : Int), .int .u64 (b : Int)] w fun e w' => e = .returned (.bool (decide (numI a < numI b))) ∧ Below W.heap.size W w' := fun w hw => less_any a b ha hb W w hw
  generalize decide (numI a < numI b) = lb at *
  cases lb
  · go_enter Try.func13, Try.ntmps13
    go_wp2_with (first | (go_at_call 22; refine (HL _ (by assumption)).mono ?_; rintro e w' ⟨rfl, hw2⟩))
    go_ret
    exact ⟨rfl, by assumption⟩
  · go_enter Try.func13, Try.ntmps13
    go_wp2_with (first | (go_at_call 22; refine (HL _ (by assumption)).mono ?_; rintro e w' ⟨rfl, hw2⟩))
    go_ret
    exact ⟨rfl, by assumption⟩
set_option maxHeartbeats 400000 in
theorem rtaken_8 (a b : Nat) (ha : a < 18446744073709551616) (hb : b < 18446744073709551616) (W w : World) (hw : Below W.heap.size W w) : Calls Try.prog 13 #[.int .i64 8, .int .u64 (a : Int), .int .u64 (b : Int)] w fun e w' => e = .returned (.bool (!decide (numI a < numI b))) ∧ Below W.heap.size W w' := by
  have HL : ∀ w, Below W.heap.size W w → Calls Try.prog 22 #[.int .u64 (a : Int), .int .u64 (b : Int)] w fun e w' => e = .returned (.bool (decide (numI a < numI b))) ∧ Below W.heap.size W w' := fun w hw => less_any a b ha hb W w hw
  generalize decide (numI a < numI b) = lb at *
  cases lb
  · go_enter Try.func13, Try.ntmps13
    go_wp2_with (first | (go_at_call 22; refine (HL _ (by assumption)).mono ?_; rintro e w' ⟨rfl, hw2⟩))
    go_ret
    exact ⟨rfl, by assumption⟩
  · go_enter Try.func13, Try.ntmps13
    go_wp2_with (first | (go_at_call 22; refine (HL _ (by assumption)).mono ?_; rintro e w' ⟨rfl, hw2⟩))
    go_ret
    exact ⟨rfl, by assumption⟩
set_option maxHeartbeats 400000 in
theorem rtaken_9 (a b : Nat) (ha : a < 18446744073709551616) (hb : b < 18446744073709551616) (W w : World) (hw : Below W.heap.size W w) : Calls Try.prog 13 #[.int .i64 9, .int .u64 (a : Int), .int .u64 (b : Int)] w fun e w' => e = .returned (.bool (decide (a < b))) ∧ Below W.heap.size W w' := by
  by_cases h : a < b
  · have h1 : (a : Int) < b := by omega
    rw [decide_eq_true h]
    go_enter Try.func13, Try.ntmps13
    go_wp2_with fail
    go_ret
    exact ⟨ret_bool (by first | rfl | (simp; done) | (simp; omega)), hw⟩
  · have h1 : ¬ (a : Int) < b := by omega
    rw [decide_eq_false h]
    go_enter Try.func13, Try.ntmps13
    go_wp2_with fail
    go_ret
    exact ⟨ret_bool (by first | rfl | (simp; done) | (simp; omega)), hw⟩
set_option maxHeartbeats 400000 in
theorem rtaken_10 (a b : Nat) (ha : a < 18446744073709551616) (hb : b < 18446744073709551616) (W w : World) (hw : Below W.heap.size W w) : Calls Try.prog 13 #[.int .i64 10, .int .u64 (a : Int), .int .u64 (b : Int)] w fun e w' => e = .returned (.bool (!decide (a < b))) ∧ Below W.heap.size W w' := by
  by_cases h : a < b
  · have h1 : (a : Int) < b := by omega
    rw [decide_eq_true h]
    go_enter Try.func13, Try.ntmps13
    go_wp2_with fail
    go_ret
    exact ⟨ret_bool (by first | rfl | (simp; done) | (simp; omega)), hw⟩
  · have h1 : ¬ (a : Int) < b := by omega
    rw [decide_eq_false h]
    go_enter Try.func13, Try.ntmps13
    go_wp2_with fail
    go_ret
    exact ⟨ret_bool (by first | rfl | (simp; done) | (simp; omega)), hw⟩
set_option maxHeartbeats 400000 in
theorem rtaken_no (op : Int) (h5 : ¬ op = 5) (h6 : ¬ op = 6) (h7 : ¬ op = 7) (h8 : ¬ op = 8) (h9 : ¬ op = 9) (h10 : ¬ op = 10) (a b : Nat) (W w : World) (hw : Below W.heap.size W w) : Calls Try.prog 13 #[.int .i64 op, .int .u64 (a : Int), .int .u64 (b : Int)] w fun e w' => e = .returned (.bool (false)) ∧ Below W.heap.size W w' := by
  have g5 : (op == 5) = false := by simpa using h5
  have g6 : (op == 6) = false := by simpa using h6
  have g7 : (op == 7) = false := by simpa using h7
  have g8 : (op == 8) = false := by simpa using h8
  have g9 : (op == 9) = false := by simpa using h9
  have g10 : (op == 10) = false := by simpa using h10
  go_enter Try.func13, Try.ntmps13
  go_wp2_with fail
  go_ret
  exact ⟨ret_bool (by first | rfl | (simp; done) | (simp [*]; done)), hw⟩
theorem rtaken_any (op : Int) (a b : Nat) (ha : a < 18446744073709551616) (hb : b < 18446744073709551616) (W w : World) (hw : Below W.heap.size W w) : Calls Try.prog 13 #[.int .i64 op, .int .u64 (a : Int), .int .u64 (b : Int)] w fun e w' => e = .returned (.bool (takB op a b)) ∧ Below W.heap.size W w' := by
  by_cases h5 : op = 5
  · subst h5
    rw [takB_5]; exact rtaken_5 a b ha hb W w hw
  by_cases h6 : op = 6
  · subst h6
    rw [takB_6]; exact rtaken_6 a b ha hb W w hw
  by_cases h7 : op = 7
  · subst h7
    rw [takB_7]; exact rtaken_7 a b ha hb W w hw
  by_cases h8 : op = 8
  · subst h8
    rw [takB_8]; exact rtaken_8 a b ha hb W w hw
  by_cases h9 : op = 9
  · subst h9
    rw [takB_9]; exact rtaken_9 a b ha hb W w hw
  by_cases h10 : op = 10
  · subst h10
    rw [takB_10]; exact rtaken_10 a b ha hb W w hw
  rw [takB_no op h5 h6 h7 h8 h9 h10]; exact rtaken_no op h5 h6 h7 h8 h9 h10 a b W w hw
theorem rext_11 (a : Nat) (ha : a < 18446744073709551616) (W w : World) (hw : Below W.heap.size W w) : Calls Try.prog 15 #[.int .i64 11, .int .u64 (a : Int)] w fun e w' => e = .returned (.int .u64 ((sextA a 8 : Nat) : Int)) ∧ Below W.heap.size W w' := by
  go_enter Try.func15, Try.ntmps15
  go_wp2_with (go_at_call 24; refine (rsext_all a 8 ha W _ hw).mono ?_; rintro e w' ⟨rfl, hw2⟩)
  go_ret
  exact ⟨rfl, hw2⟩
theorem rext_12 (a : Nat) (ha : a < 18446744073709551616) (W w : World) (hw : Below W.heap.size W w) : Calls Try.prog 15 #[.int .i64 12, .int .u64 (a : Int)] w fun e w' => e = .returned (.int .u64 ((sextA a 16 : Nat) : Int)) ∧ Below W.heap.size W w' := by
  go_enter Try.func15, Try.ntmps15
  go_wp2_with (go_at_call 24; refine (rsext_all a 16 ha W _ hw).mono ?_; rintro e w' ⟨rfl, hw2⟩)
  go_ret
  exact ⟨rfl, hw2⟩
theorem rext_13 (a : Nat) (ha : a < 18446744073709551616) (W w : World) (hw : Below W.heap.size W w) : Calls Try.prog 15 #[.int .i64 13, .int .u64 (a : Int)] w fun e w' => e = .returned (.int .u64 ((sextA a 32 : Nat) : Int)) ∧ Below W.heap.size W w' := by
  go_enter Try.func15, Try.ntmps15
  go_wp2_with (go_at_call 24; refine (rsext_all a 32 ha W _ hw).mono ?_; rintro e w' ⟨rfl, hw2⟩)
  go_ret
  exact ⟨rfl, hw2⟩
theorem rext_15 (a : Nat) (ha : a < 18446744073709551616) (W w : World) (hw : Below W.heap.size W w) : Calls Try.prog 15 #[.int .i64 15, .int .u64 (a : Int)] w fun e w' => e = .returned (.int .u64 ((a % 2 ^ 8 : Nat) : Int)) ∧ Below W.heap.size W w' := by
  have HE : Hid ((a : Int) % 256 = ((a % 2 ^ 8 : Nat) : Int)) := by show _ = _; omega
  go_enter Try.func15, Try.ntmps15
  go_wp2
  go_ret
  refine ⟨?_, hw⟩
  rw [← HE.out]
  rfl
theorem rext_16 (a : Nat) (ha : a < 18446744073709551616) (W w : World) (hw : Below W.heap.size W w) : Calls Try.prog 15 #[.int .i64 16, .int .u64 (a : Int)] w fun e w' => e = .returned (.int .u64 ((a % 2 ^ 16 : Nat) : Int)) ∧ Below W.heap.size W w' := by
  have HE : Hid ((a : Int) % 65536 = ((a % 2 ^ 16 : Nat) : Int)) := by show _ = _; omega
  go_enter Try.func15, Try.ntmps15
  go_wp2
  go_ret
  refine ⟨?_, hw⟩
  rw [← HE.out]
  rfl
theorem rext_17 (a : Nat) (ha : a < 18446744073709551616) (W w : World) (hw : Below W.heap.size W w) : Calls Try.prog 15 #[.int .i64 17, .int .u64 (a : Int)] w fun e w' => e = .returned (.int .u64 ((a % 2 ^ 32 : Nat) : Int)) ∧ Below W.heap.size W w' := by
  have HE : Hid ((a : Int) % 4294967296 = ((a % 2 ^ 32 : Nat) : Int)) := by show _ = _; omega
  go_enter Try.func15, Try.ntmps15
  go_wp2
  go_ret
  refine ⟨?_, hw⟩
  rw [← HE.out]
  rfl
theorem rext_no (op : Int) (h11 : ¬ op = 11) (h12 : ¬ op = 12) (h13 : ¬ op = 13) (h15 : ¬ op = 15) (h16 : ¬ op = 16) (h17 : ¬ op = 17) (a : Nat) (W w : World) (hw : Below W.heap.size W w) : Calls Try.prog 15 #[.int .i64 op, .int .u64 (a : Int)] w fun e w' => e = .returned (.int .u64 ((a : Nat) : Int)) ∧ Below W.heap.size W w' := by
  go_enter Try.func15, Try.ntmps15
  go_wp2
  go_ret
  exact ⟨rfl, hw⟩
theorem rext_any (op : Int) (a : Nat) (ha : a < 18446744073709551616) (W w : World) (hw : Below W.heap.size W w) : Calls Try.prog 15 #[.int .i64 op, .int .u64 (a : Int)] w fun e w' => e = .returned (.int .u64 ((extV op a : Nat) : Int)) ∧ Below W.heap.size W w' := by
  by_cases h11 : op = 11
  · subst h11
    rw [extV_11]; exact rext_11 a ha W w hw
  by_cases h12 : op = 12
  · subst h12
    rw [extV_12]; exact rext_12 a ha W w hw
  by_cases h13 : op = 13
  · subst h13
    rw [extV_13]; exact rext_13 a ha W w hw
  by_cases h15 : op = 15
  · subst h15
    rw [extV_15]; exact rext_15 a ha W w hw
  by_cases h16 : op = 16
  · subst h16
    rw [extV_16]; exact rext_16 a ha W w hw
  by_cases h17 : op = 17
  · subst h17
    rw [extV_17]; exact rext_17 a ha W w hw
  rw [extV_no op h11 h12 h13 h15 h16 h17]; exact rext_no op h11 h12 h13 h15 h16 h17 a W w hw
theorem takes_core (op : Int) (a b : Nat) (ha : a < 18446744073709551616) (hb : b < 18446744073709551616) (W w : World) (hw : Below W.heap.size W w) : Calls Try.prog 4 #[.int .i64 op, .int .u64 (a : Int), .int .u64 (b : Int)] w fun e w' => e = .returned (.bool true) ∧ Below W.heap.size W w' := by
  go_enter Try.func4, Try.ntmps4
  go_wp2_with (first | (go_at_call 9; refine (awake_any W _ (by assumption)).mono ?_; rintro e w' ⟨rfl, hw2⟩) | (go_at_call 12; refine (taken_any op a b ha hb _).mono ?_; rintro e w' ⟨rfl, rfl⟩) | (go_at_call 13; refine (rtaken_any op a b ha hb W _ (by assumption)).mono ?_; rintro e w' ⟨rfl, hw3⟩))
  go_ret
  exact ⟨ret_bool (by first | rfl | simp), by assumption⟩
theorem exts_core (op : Int) (a : Nat) (ha : a < 18446744073709551616) (W w : World) (hw : Below W.heap.size W w) : Calls Try.prog 5 #[.int .i64 op, .int .u64 (a : Int)] w fun e w' => e = .returned (.bool true) ∧ Below W.heap.size W w' := by
  go_enter Try.func5, Try.ntmps5
  go_wp2_with (first | (go_at_call 9; refine (awake_any W _ (by assumption)).mono ?_; rintro e w' ⟨rfl, hw2⟩) | (go_at_call 14; refine (ext_any op a ha W _ (by assumption)).mono ?_; rintro e w' ⟨rfl, hw4⟩) | (go_at_call 15; refine (rext_any op a ha W _ (by assumption)).mono ?_; rintro e w' ⟨rfl, hw3⟩))
  go_ret
  exact ⟨ret_bool (by first | rfl | simp), by assumption⟩
theorem takes_walk (W : World) (a0 : Int) (w0 : (Lit.int .i64 a0).wf = true) (a1 : Int) (w1 : (Lit.int .u64 a1).wf = true) (a2 : Int) (w2 : (Lit.int .u64 a2).wf = true) :
    Calls Try.prog 4 #[.int .i64 a0, .int .u64 a1, .int .u64 a2] W fun e w' => e = .returned (.bool true) ∧ Below W.heap.size W w' := by
  have b1 := bounds_u64 w1
  have b2 := bounds_u64 w2
  obtain ⟨x, rfl⟩ : ∃ x : Nat, a1 = x := ⟨a1.toNat, by omega⟩
  obtain ⟨y, rfl⟩ : ∃ y : Nat, a2 = y := ⟨a2.toNat, by omega⟩
  exact takes_core a0 x y (by omega) (by omega) W W (Below.refl _ _)
theorem exts_walk (W : World) (a0 : Int) (w0 : (Lit.int .i64 a0).wf = true) (a1 : Int) (w1 : (Lit.int .u64 a1).wf = true) :
    Calls Try.prog 5 #[.int .i64 a0, .int .u64 a1] W fun e w' => e = .returned (.bool true) ∧ Below W.heap.size W w' := by
  have b1 := bounds_u64 w1
  obtain ⟨x, rfl⟩ : ∃ x : Nat, a1 = x := ⟨a1.toNat, by omega⟩
  exact exts_core a0 x (by omega) W W (Below.refl _ _)
end Go.Proofs.Ytgaihgniommhiaa
