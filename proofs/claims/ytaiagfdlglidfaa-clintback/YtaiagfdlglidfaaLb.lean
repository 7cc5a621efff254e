/- The law ClintBack. -/
import Derived.Test.YtaiagfdlglidfaaAw
namespace Go.Proofs.Ytaiagfdlglidfaa
open Go.RowKit
set_option linter.unusedVariables false
set_option linter.unusedSimpArgs false
set_option maxRecDepth 100000
theorem or_halves (t : Nat) (ht : t < 18446744073709551616) : bits .or .u64 ((t % 4294967296 : Nat) : Int) (IntKind.u64.wrap (((t / 4294967296 : Nat) : Int) * 4294967296)) = (t : Int) := by
  have h1 : IntKind.u64.wrap (((t / 4294967296 : Nat) : Int) * 4294967296) = ((t / 4294967296 * 4294967296 : Nat) : Int) := by rw [wrap_u64]; omega
  rw [h1, bits_or_u64_nat _ _ (by omega) (by omega)]
  have h2 : t % 4294967296 < 2 ^ 32 := by omega
  rw [Nat.or_comm, Nat.mul_comm, show (4294967296 : Nat) = 2 ^ 32 from rfl, ← Nat.two_pow_add_eq_or_of_lt h2]
  congr 1
  omega
set_option maxHeartbeats 1000000 in
theorem back_core (t c : Nat) (ht : t < 18446744073709551616) (hc : c < 18446744073709551616) (W : World) : Calls Try.prog 5 #[.int .u64 (t : Int), .int .u64 (c : Int)] W fun e w' => e = .returned (.bool true) ∧ Below W.heap.size W w' := by
  obtain ⟨r, hr⟩ : ∃ r, E.putA 18446744073709551615 0 32 c = r := ⟨_, rfl⟩
  have hrl : r < 18446744073709551616 := by rw [← hr]; exact E.putA_lt _ _ _ _ (by decide)
  have hr2 : E.putA r 32 32 (c / 4294967296) = c := by rw [← hr]; exact put_halves _ c hc
  have c1 : ∀ p V, Box 26 V p #[.bool false, .int .u64 18446744073709551615, .int .u64 0] → Calls Try.prog 10 #[.pointer (some ⟨p, 0, none⟩), .int .u64 49144, .int .i64 8, .int .u64 (t : Int)] V fun e w' => e = .returned (.bool true) ∧ Box 26 w' p #[.bool false, .int .u64 18446744073709551615, .int .u64 (t : Int)] ∧ Upon p V w' := fun p V hx => store_t8 p false 18446744073709551615 0 t (by decide) (by decide) ht V hx
  have c2 : ∀ p V, Box 26 V p #[.bool false, .int .u64 18446744073709551615, .int .u64 (t : Int)] → Calls Try.prog 10 #[.pointer (some ⟨p, 0, none⟩), .int .u64 16384, .int .i64 4, .int .u64 (c : Int)] V fun e w' => e = .returned (.bool true) ∧ Box 26 w' p #[.bool false, .int .u64 (r : Nat), .int .u64 (t : Int)] ∧ Upon p V w' := fun p V hx => by
    have h := store_lo p false 18446744073709551615 t c (by decide) ht hc V hx
    rw [hr] at h
    exact h
  have c3 : ∀ p V, Box 26 V p #[.bool false, .int .u64 (r : Nat), .int .u64 (t : Int)] → Calls Try.prog 10 #[.pointer (some ⟨p, 0, none⟩), .int .u64 16388, .int .i64 4, .int .u64 ((c / 4294967296 : Nat) : Int)] V fun e w' => e = .returned (.bool true) ∧ Box 26 w' p #[.bool false, .int .u64 (c : Int), .int .u64 (t : Int)] ∧ Upon p V w' := fun p V hx => by
    have h := store_hi p false r t (c / 4294967296) hrl ht (by omega) V hx
    rw [hr2] at h
    exact h
  have d1 : ∀ p V, Box 26 V p #[.bool false, .int .u64 (c : Int), .int .u64 (t : Int)] → Calls Try.prog 11 #[.pointer (some ⟨p, 0, none⟩), .int .u64 16384, .int .i64 8] V fun e w' => e = .returned (.tuple #[.int .u64 (c : Int), .bool true]) ∧ Below V.heap.size V w' := fun p V hx => by
    have h := load_any p false c t 16384 8 hc ht (by decide) V hx
    rw [show mayB 16384 8 = true from by decide +kernel, show loadR false c t 16384 8 = c from by unfold loadR; rw [show mayB 16384 8 = true from by decide +kernel]; exact get_whole c hc] at h
    exact h
  have d2 : ∀ p V, Box 26 V p #[.bool false, .int .u64 (c : Int), .int .u64 (t : Int)] → Calls Try.prog 11 #[.pointer (some ⟨p, 0, none⟩), .int .u64 49144, .int .i64 4] V fun e w' => e = .returned (.tuple #[.int .u64 ((t % 4294967296 : Nat) : Int), .bool true]) ∧ Below V.heap.size V w' := fun p V hx => by
    have h := load_any p false c t 49144 4 hc ht (by decide) V hx
    rw [show mayB 49144 4 = true from by decide +kernel, show loadR false c t 49144 4 = t % 4294967296 from by unfold loadR; rw [show mayB 49144 4 = true from by decide +kernel]; exact get_low t] at h
    exact h
  have d3 : ∀ p V, Box 26 V p #[.bool false, .int .u64 (c : Int), .int .u64 (t : Int)] → Calls Try.prog 11 #[.pointer (some ⟨p, 0, none⟩), .int .u64 49148, .int .i64 4] V fun e w' => e = .returned (.tuple #[.int .u64 ((t / 4294967296 : Nat) : Int), .bool true]) ∧ Below V.heap.size V w' := fun p V hx => by
    have h := load_any p false c t 49148 4 hc ht (by decide) V hx
    rw [show mayB 49148 4 = true from by decide +kernel, show loadR false c t 49148 4 = t / 4294967296 from by unfold loadR; rw [show mayB 49148 4 = true from by decide +kernel]; exact get_high t ht] at h
    exact h
  have e1 : ∀ p V, Box 26 V p #[.bool false, .int .u64 (c : Int), .int .u64 (t : Int)] → Calls Try.prog 15 #[.pointer (some ⟨p, 0, none⟩)] V fun e w' => e = .returned (.int .u64 ((flN (decide (c ≤ t)) : Int) * 128)) ∧ Below V.heap.size V w' := fun p V hx => by
    have h := lines_any p false c t V hx
    rw [show ((linesR false c t : Nat) : Int) = (flN (decide (c ≤ t)) : Int) * 128 from by unfold linesR; simp [flN]; omega] at h
    exact h
  have e2 := fun V => flag_any (decide (c ≤ t)) V
  have e3 : ∀ V, Calls Try.prog 17 #[.bool (decide ((c : Int) ≤ (t : Int)))] V fun e w' => e = .returned (.int .u64 (flN (decide (c ≤ t)) : Nat)) ∧ w' = V := fun V => by
    have h := e2 V
    rw [show decide ((c : Int) ≤ (t : Int)) = decide (c ≤ t) from by simp]
    exact h
  have hfl := flN_le (decide (c ≤ t))
  have hor := or_halves t ht
  have hsh : IntKind.u64.wrap ((c : Int) / 4294967296) = ((c / 4294967296 : Nat) : Int) := by rw [wrap_u64]; omega
  have hq : (c : Int) / 4294967296 = ((c / 4294967296 : Nat) : Int) := by omega
  have hcc : ((c : Int) == (c : Int)) = true := by simp
  have htt : ((t : Int) == (t : Int)) = true := by simp
  clear hr hr2
  generalize hDD : decide (c ≤ t) = dd at *
  generalize flN dd = fl at *
  generalize t % 4294967296 = tl at *
  generalize t / 4294967296 = th at *
  generalize c / 4294967296 = ch at *
  have hf7 : (fl : Int) * 128 / 128 = fl := by omega
  have hff : ((fl : Int) == (fl : Int)) = true := by simp
  go_enter Try.func5, Try.ntmps5
  go_wp2_with fail
  refine (awake_any _).mono ?_
  rintro e w0 ⟨rfl, hb0⟩
  go_wp2_with fail
  refine (begin_any _).mono ?_
  rintro e w1 ⟨rfl, hb1⟩
  have hbA : Below W.heap.size W w1 := hb0.trans (hb1.mono hb0.size)
  clear hb0 hb1
  go_upto_region 4 with fail
  have hx1 := Box.new 26 w1 #[.bool false, .int .u64 18446744073709551615, .int .u64 0]
  have hb2 : Below W.heap.size W (w1.alloc (.cells #[.bool false, .int .u64 18446744073709551615, .int .u64 0] 26)) := hbA.alloc hbA.size _
  have hle := hbA.size
  generalize w1.alloc (.cells #[.bool false, .int .u64 18446744073709551615, .int .u64 0] 26) = w2 at *
  generalize w1.heap.size = b at *
  clear hbA
  have X2 : Hid (Box 26 w2 b #[.bool false, .int .u64 18446744073709551615, .int .u64 0] ∧ Below W.heap.size W w2) := ⟨hx1, hb2⟩
  have HL : Hid (W.heap.size ≤ b) := hle
  clear hx1 hb2 hle
  go_wp2_with fail
  refine (c1 _ _ X2.out.1).mono ?_
  rintro e w3 ⟨rfl, hx, hu⟩
  have X3 : Hid (Box 26 w3 b #[.bool false, .int .u64 18446744073709551615, .int .u64 (t : Int)] ∧ Below W.heap.size W w3) := ⟨hx, X2.out.2.trans (hu.below HL.out X2.out.2.size)⟩
  clear hx hu
  go_wp2_with fail
  refine (c2 _ _ X3.out.1).mono ?_
  rintro e w4 ⟨rfl, hx, hu⟩
  have X4 : Hid (Box 26 w4 b #[.bool false, .int .u64 (r : Nat), .int .u64 (t : Int)] ∧ Below W.heap.size W w4) := ⟨hx, X3.out.2.trans (hu.below HL.out X3.out.2.size)⟩
  clear hx hu
  go_wp2_with fail
  refine (c3 _ _ X4.out.1).mono ?_
  rintro e w5 ⟨rfl, hx, hu⟩
  have X5 : Hid (Box 26 w5 b #[.bool false, .int .u64 (c : Int), .int .u64 (t : Int)] ∧ Below W.heap.size W w5) := ⟨hx, X4.out.2.trans (hu.below HL.out X4.out.2.size)⟩
  clear hx hu
  go_wp2_with fail
  refine (d1 _ _ X5.out.1).mono ?_
  rintro e w6 ⟨rfl, hb⟩
  have X6 : Hid (Box 26 w6 b #[.bool false, .int .u64 (c : Int), .int .u64 (t : Int)] ∧ Below W.heap.size W w6) := ⟨X5.out.1.step hb, X5.out.2.trans (hb.mono X5.out.2.size)⟩
  clear hb
  go_wp2_with fail
  refine (d2 _ _ X6.out.1).mono ?_
  rintro e w7 ⟨rfl, hb⟩
  have X7 : Hid (Box 26 w7 b #[.bool false, .int .u64 (c : Int), .int .u64 (t : Int)] ∧ Below W.heap.size W w7) := ⟨X6.out.1.step hb, X6.out.2.trans (hb.mono X6.out.2.size)⟩
  clear hb
  go_wp2_with fail
  refine (d3 _ _ X7.out.1).mono ?_
  rintro e w8 ⟨rfl, hb⟩
  have X8 : Hid (Box 26 w8 b #[.bool false, .int .u64 (c : Int), .int .u64 (t : Int)] ∧ Below W.heap.size W w8) := ⟨X7.out.1.step hb, X7.out.2.trans (hb.mono X7.out.2.size)⟩
  clear hb
  go_wp2_with fail
  refine (e1 _ _ X8.out.1).mono ?_
  rintro e w9 ⟨rfl, hb⟩
  have X9 : Hid (Box 26 w9 b #[.bool false, .int .u64 (c : Int), .int .u64 (t : Int)] ∧ Below W.heap.size W w9) := ⟨X8.out.1.step hb, X8.out.2.trans (hb.mono X8.out.2.size)⟩
  clear hb
  go_wp2_with fail
  first | refine (e3 _).mono ?_ | refine (e2 _).mono ?_
  rintro e w' ⟨rfl, hw⟩
  rw [hw]
  clear hw w'
  go_wp2_with fail
  go_ret
  exact ⟨by simp, X9.out.2⟩
theorem back_walk (W : World) (a0 : Int) (w0 : (Lit.int .u64 a0).wf = true) (a1 : Int) (w1 : (Lit.int .u64 a1).wf = true) : Calls Try.prog 5 #[.int .u64 a0, .int .u64 a1] W fun e w' => e = .returned (.bool true) ∧ Below W.heap.size W w' := by
  have b0 := bounds_u64 w0
  have b1 := bounds_u64 w1
  obtain ⟨x, rfl⟩ : ∃ x : Nat, a0 = x := ⟨a0.toNat, by omega⟩
  obtain ⟨y, rfl⟩ : ∃ y : Nat, a1 = y := ⟨a1.toNat, by omega⟩
  exact back_core x y (by omega) (by omega) W
end Go.Proofs.Ytaiagfdlglidfaa
