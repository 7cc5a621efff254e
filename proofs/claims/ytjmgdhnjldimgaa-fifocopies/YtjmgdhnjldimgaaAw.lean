/- The statements' call awake: the page's example; a row's rooms. -/
import Derived.Test.YtjmgdhnjldimgaaPc
namespace Go.Proofs.Ytjmgdhnjldimgaa
open Go.RowKit
set_option linter.unusedVariables false
set_option linter.unusedSimpArgs false
set_option maxRecDepth 100000
theorem RL.three {w : World} {g x y z : Nat} (h : Box 5 w g #[.int .u8 (x : Nat), .int .u8 (y : Nat), .int .u8 (z : Nat)]) : RL w (.slice (some ⟨g, 0, none⟩) 3 3) g [x, y, z] := ⟨_, 3, rfl, Nat.le_refl _, by omega, .inr ⟨0, rfl, fun i v hi => by
  match i, hi with
  | 0, hi => simp at hi; subst hi; exact cellOf h 0 _ rfl
  | 1, hi => simp at hi; subst hi; exact cellOf h 1 _ rfl
  | 2, hi => simp at hi; subst hi; exact cellOf h 2 _ rfl
  | i + 3, hi => simp at hi⟩⟩
set_option maxHeartbeats 1000000 in
theorem awake_any (w : World) : Calls Try.prog 7 #[] w fun e w' => e = .returned (.bool true) ∧ Below w.heap.size w w' := by
  have CN : Hid (∀ V, Calls Try.prog 9 #[.int .i64 2] V fun e w' => ∃ fb, e = .returned (.tuple #[.pointer (some ⟨fb, 0, none⟩), .int .i64 0]) ∧ FifoAt w' fb fb (newK 2) ∧ V.heap.size ≤ fb ∧ Below V.heap.size V w') := fun V => new_yes 2 (by omega) (by omega) V
  have CP : Hid (∀ V fb, FifoAt V fb fb (newK 2) → Calls Try.prog 12 #[.pointer (some ⟨fb, 0, none⟩), .slice (some ⟨V.heap.size, 0, none⟩) 3 3] (V.alloc (.cells #[.int .u8 1, .int .u8 2, .int .u8 3] 5)) fun e w' => ∃ g, e = .returned (.int .i64 2) ∧ FifoAt w' fb g (putK (newK 2) [1, 2, 3]) ∧ Two fb fb (V.alloc (.cells #[.int .u8 1, .int .u8 2, .int .u8 3] 5)) w') := fun V fb h =>
    (put_any (h.step ((Below.refl _ _).alloc (Nat.le_refl _) _)) _ [1, 2, 3] (RL.three (x := 1) (y := 2) (z := 3) (Box.new 5 V _)) (by decide) (by decide)).mono (by
      rintro e w' ⟨g, rfl, h1, h2, _⟩
      exact ⟨g, rfl, h1, h2⟩)
  have CL : Hid (∀ V fb g, FifoAt V fb g (putK (newK 2) [1, 2, 3]) → Calls Try.prog 21 #[.pointer (some ⟨fb, 0, none⟩)] V fun e w' => e = .returned (.int .u64 1) ∧ w' = V) := fun V fb g h => lost_any h
  have CE : Hid (∀ V fb g, FifoAt V fb g (putK (newK 2) [1, 2, 3]) → Calls Try.prog 11 #[.pointer (some ⟨fb, 0, none⟩)] V fun e w' => e = .returned (.int .i64 2) ∧ w' = V) := fun V fb g h => len_any h
  generalize putK (newK 2) [1, 2, 3] = K1 at *
  generalize newK 2 = K0 at *
  go_enter Try.func7, Try.ntmps7
  go_wp2_with fail
  refine (CN.out _).mono ?_
  rintro e w1 ⟨fb, rfl, h1, g1, b1⟩
  have X1 : Hid (FifoAt w1 fb fb K0 ∧ Below w.heap.size w w1 ∧ w.heap.size ≤ fb) := ⟨h1, b1, g1⟩
  clear h1 g1 b1
  go_wp2_with fail
  refine (CP.out w1 fb X1.out.1).mono ?_
  rintro e w2 ⟨g, rfl, h1, t1⟩
  have X2 : Hid (FifoAt w2 fb g K1 ∧ Below w.heap.size w w2) := ⟨h1, (X1.out.2.1.alloc X1.out.2.1.size _).trans (t1.below X1.out.2.2 X1.out.2.2 (by have := X1.out.2.1.size; simp; omega))⟩
  clear h1 t1 X1
  go_wp2_with fail
  refine (CL.out _ fb g X2.out.1).mono ?_
  rintro e wq ⟨rfl, hw⟩
  rw [hw]
  clear hw wq
  go_wp2_with fail
  refine (CE.out _ fb g X2.out.1).mono ?_
  rintro e wq ⟨rfl, hw⟩
  rw [hw]
  clear hw wq
  go_wp2
  go_ret
  exact ⟨rfl, X2.out.2⟩
set_option maxHeartbeats 1000000 in
theorem rooms_core (W : World) (z : Int) (hz : (Lit.int .i64 z).wf = true) : Calls Try.prog 4 #[.int .i64 z] W fun e w' => e = .returned (.bool true) ∧ Below W.heap.size W w' := by
  by_cases h : z < 1 ∨ 4096 < z
  · have CN : Hid (∀ V, Calls Try.prog 9 #[.int .i64 z] V fun e w' => e = .returned (.tuple #[.pointer none, .int .i64 1]) ∧ w' = V) := fun V => new_no z h V
    by_cases h1 : z < 1
    · have n1 : decide (z < 1) = true := by simp; omega
      clear h hz
      go_enter Try.func4, Try.ntmps4
      go_wp2_with fail
      refine (awake_any _).mono ?_
      rintro e w1 ⟨rfl, b1⟩
      go_wp2_with fail
      refine (CN.out _).mono ?_
      rintro e wq ⟨rfl, hw⟩
      rw [hw]
      clear hw wq
      go_wp2
      go_ret
      exact ⟨rfl, b1⟩
    · have n1 : decide (z < 1) = false := by simp; omega
      have n2 : decide (4096 < z) = true := by simp; omega
      clear h hz h1
      go_enter Try.func4, Try.ntmps4
      go_wp2_with fail
      refine (awake_any _).mono ?_
      rintro e w1 ⟨rfl, b1⟩
      go_wp2_with fail
      refine (CN.out _).mono ?_
      rintro e wq ⟨rfl, hw⟩
      rw [hw]
      clear hw wq
      go_wp2
      go_ret
      exact ⟨rfl, b1⟩
  · obtain ⟨r, hr⟩ : ∃ r : Nat, z = r := ⟨z.toNat, by omega⟩
    subst hr
    have n1 : decide ((r : Int) < 1) = false := by simp; omega
    have n2 : decide ((4096 : Int) < r) = false := by simp; omega
    have CN : Hid (∀ V, Calls Try.prog 9 #[.int .i64 (r : Nat)] V fun e w' => ∃ fb, e = .returned (.tuple #[.pointer (some ⟨fb, 0, none⟩), .int .i64 0]) ∧ FifoAt w' fb fb (newK r) ∧ V.heap.size ≤ fb ∧ Below V.heap.size V w') := fun V => new_yes r (by omega) (by omega) V
    have CR : Hid (∀ V fb, FifoAt V fb fb (newK r) → Calls Try.prog 10 #[.pointer (some ⟨fb, 0, none⟩)] V fun e w' => e = .returned (.int .i64 (r : Nat)) ∧ w' = V) := fun V fb h => room_any h
    have CE : Hid (∀ V fb, FifoAt V fb fb (newK r) → Calls Try.prog 11 #[.pointer (some ⟨fb, 0, none⟩)] V fun e w' => e = .returned (.int .i64 0) ∧ w' = V) := fun V fb h => len_any h
    clear h hz
    go_enter Try.func4, Try.ntmps4
    go_wp2_with fail
    refine (awake_any _).mono ?_
    rintro e w1 ⟨rfl, b1⟩
    go_wp2_with fail
    refine (CN.out _).mono ?_
    rintro e w2 ⟨fb, rfl, h1, g1, b2⟩
    have X1 : Hid (FifoAt w2 fb fb (newK r) ∧ Below W.heap.size W w2) := ⟨h1, b1.trans (b2.mono b1.size)⟩
    clear h1 g1 b1 b2
    go_wp2_with fail
    refine (CR.out _ fb X1.out.1).mono ?_
    rintro e wq ⟨rfl, hw⟩
    rw [hw]
    clear hw wq
    go_wp2_with fail
    refine (CE.out _ fb X1.out.1).mono ?_
    rintro e wq ⟨rfl, hw⟩
    rw [hw]
    clear hw wq
    go_wp2
    go_ret
    exact ⟨rfl, X1.out.2⟩
end Go.Proofs.Ytjmgdhnjldimgaa
