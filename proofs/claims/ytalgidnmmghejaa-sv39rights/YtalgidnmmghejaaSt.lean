/- Package sv39: Entry, Leaf, Satp; the statements' call awake returns true. -/
import Derived.Test.YtalgidnmmghejaaSs
namespace Go.Proofs.Ytalgidnmmghejaa
open Go.RowKit
set_option linter.unusedVariables false
set_option linter.unusedSimpArgs false
set_option maxRecDepth 100000
theorem bits_0 (W w : World) (hb : Below W.heap.size W w) : Calls Try.prog 55 #[.slice (some ⟨w.heap.size, 0, none⟩) 1 1] (w.alloc (.cells #[.int .i64 0] 3)) fun e w' => e = .returned (.int .u64 1) ∧ w' = w.alloc (.cells #[.int .i64 0] 3) ∧ Below W.heap.size W w' := by
  have hr : E.ReadsV (w.alloc (.cells #[.int .i64 0] 3)) (.slice (some ⟨w.heap.size, 0, none⟩) 1 1) 1 (fun i => .int .i64 ((fun i => ([0] : List Int).getD i 0) i)) := by
    refine .inr ⟨w.heap.size, 0, 1, rfl, fun i hi => ?_⟩
    have hh := heap_alloc_new w (.cells #[.int .i64 0] 3)
    obtain rfl : i = 0 := by omega
    exact cellOf hh _ _ rfl
  refine (E.wbits_any (fun i => ([0] : List Int).getD i 0) 1 _ (by omega) _ hr).mono ?_
  rintro e w' ⟨rfl, hw⟩
  have hv : E.hiOf (E.setF (fun i => ([0] : List Int).getD i 0) 1) 64 0 = 1 := by decide +kernel
  exact ⟨by rw [hv]; rfl, hw, by rw [hw]; exact hb.alloc hb.size _⟩
theorem bits_all (W w : World) (hb : Below W.heap.size W w) : Calls Try.prog 55 #[.slice (some ⟨w.heap.size, 0, none⟩) 6 6] (w.alloc (.cells #[.int .i64 0, .int .i64 1, .int .i64 2, .int .i64 3, .int .i64 6, .int .i64 7] 3)) fun e w' => e = .returned (.int .u64 207) ∧ w' = w.alloc (.cells #[.int .i64 0, .int .i64 1, .int .i64 2, .int .i64 3, .int .i64 6, .int .i64 7] 3) ∧ Below W.heap.size W w' := by
  have hr : E.ReadsV (w.alloc (.cells #[.int .i64 0, .int .i64 1, .int .i64 2, .int .i64 3, .int .i64 6, .int .i64 7] 3)) (.slice (some ⟨w.heap.size, 0, none⟩) 6 6) 6 (fun i => .int .i64 ((fun i => ([0, 1, 2, 3, 6, 7] : List Int).getD i 0) i)) := by
    refine .inr ⟨w.heap.size, 0, 6, rfl, fun i hi => ?_⟩
    have hh := heap_alloc_new w (.cells #[.int .i64 0, .int .i64 1, .int .i64 2, .int .i64 3, .int .i64 6, .int .i64 7] 3)
    rcases (show i = 0 ∨ i = 1 ∨ i = 2 ∨ i = 3 ∨ i = 4 ∨ i = 5 from by omega) with rfl | rfl | rfl | rfl | rfl | rfl <;> exact cellOf hh _ _ rfl
  refine (E.wbits_any (fun i => ([0, 1, 2, 3, 6, 7] : List Int).getD i 0) 6 _ (by omega) _ hr).mono ?_
  rintro e w' ⟨rfl, hw⟩
  have hv : E.hiOf (E.setF (fun i => ([0, 1, 2, 3, 6, 7] : List Int).getD i 0) 6) 64 0 = 207 := by decide +kernel
  exact ⟨by rw [hv]; rfl, hw, by rw [hw]; exact hb.alloc hb.size _⟩
theorem bits_4 (W w : World) (hb : Below W.heap.size W w) : Calls Try.prog 55 #[.slice (some ⟨w.heap.size, 0, none⟩) 1 1] (w.alloc (.cells #[.int .i64 4] 3)) fun e w' => e = .returned (.int .u64 16) ∧ w' = w.alloc (.cells #[.int .i64 4] 3) ∧ Below W.heap.size W w' := by
  have hr : E.ReadsV (w.alloc (.cells #[.int .i64 4] 3)) (.slice (some ⟨w.heap.size, 0, none⟩) 1 1) 1 (fun i => .int .i64 ((fun i => ([4] : List Int).getD i 0) i)) := by
    refine .inr ⟨w.heap.size, 0, 1, rfl, fun i hi => ?_⟩
    have hh := heap_alloc_new w (.cells #[.int .i64 4] 3)
    obtain rfl : i = 0 := by omega
    exact cellOf hh _ _ rfl
  refine (E.wbits_any (fun i => ([4] : List Int).getD i 0) 1 _ (by omega) _ hr).mono ?_
  rintro e w' ⟨rfl, hw⟩
  have hv : E.hiOf (E.setF (fun i => ([4] : List Int).getD i 0) 1) 64 0 = 16 := by decide +kernel
  exact ⟨by rw [hv]; rfl, hw, by rw [hw]; exact hb.alloc hb.size _⟩
theorem put_up (x a M v : Nat) (hx : x < 2 ^ a) (hv : v < 2 ^ M) (h : a + M ≤ 64) : E.putN x a M v = v * 2 ^ a + x := by
  have hM : (2 ^ M - 1) * 2 ^ a < 2 ^ 64 := Nat.lt_of_lt_of_le (Nat.mul_lt_mul_of_pos_right (Nat.sub_lt (Nat.two_pow_pos _) (by omega)) (Nat.two_pow_pos _)) (by rw [← Nat.pow_add]; exact Nat.pow_le_pow_right (by omega) (by omega))
  have hV : v * 2 ^ a < 2 ^ 64 := Nat.lt_of_lt_of_le (Nat.mul_lt_mul_of_pos_right hv (Nat.two_pow_pos _)) (by rw [← Nat.pow_add]; exact Nat.pow_le_pow_right (by omega) (by omega))
  unfold E.putN
  rw [Nat.mod_eq_of_lt (show (2 ^ M - 1) * 2 ^ a < 18446744073709551616 from hM), Nat.mod_eq_of_lt (show v * 2 ^ a < 18446744073709551616 from hV), Nat.mul_comm v, Nat.two_pow_add_eq_or_of_lt hx]
  apply Nat.eq_of_testBit_eq
  intro j
  have hc := Nat.testBit_two_pow_sub_succ (x := (2 ^ M - 1) * 2 ^ a) (n := 64) hM j
  rw [show 2 ^ 64 - ((2 ^ M - 1) * 2 ^ a + 1) = 18446744073709551615 - (2 ^ M - 1) * 2 ^ a from by omega] at hc
  simp only [Nat.testBit_or, Nat.testBit_and, hc, Nat.testBit_mul_two_pow, Nat.testBit_two_pow_mul, Nat.testBit_two_pow_sub_one]
  by_cases hj : j < a
  · have h1 : ¬ a ≤ j := by omega
    have h2 : j < 64 := by omega
    simp [h1, h2]
  · have h0 : x.testBit j = false := Nat.testBit_lt_two_pow (Nat.lt_of_lt_of_le hx (Nat.pow_le_pow_right (by omega) (by omega)))
    by_cases hm : j - a < M
    · have h1 : a ≤ j := by omega
      simp [h0, hm, h1]
    · have h3 : v.testBit (j - a) = false := Nat.testBit_lt_two_pow (Nat.lt_of_lt_of_le hv (Nat.pow_le_pow_right (by omega) (by omega)))
      simp [h0, h3]
theorem g12_lt (x : Nat) : E.getN x 12 44 < 17592186044416 := by
  have h := E.getN_in x 12 44 (by omega)
  rw [show ((12 : Nat) : Int) = 12 from rfl] at h
  rw [h]; exact Nat.mod_lt _ (by decide)
theorem put_10 (b n : Nat) (hb : b < 1024) (hn : n < 17592186044416) : E.putA b 10 44 n = n * 1024 + b := by
  have h := E.putA_in b 10 44 n (by omega)
  rw [show ((10 : Nat) : Int) = 10 from rfl, show (min (44 : Int) 64).toNat = 44 from by decide] at h
  rw [h]; exact put_up b 10 44 n hb hn (by omega)
theorem put_60 (n : Nat) (hn : n < 17592186044416) : E.putA n 60 4 8 = 9223372036854775808 + n := by
  have h := E.putA_in n 60 4 8 (by omega)
  rw [show ((60 : Nat) : Int) = 60 from rfl, show (min (4 : Int) 64).toNat = 4 from by decide] at h
  rw [h]; exact put_up n 60 4 8 (by omega) (by omega) (by omega)
theorem naming_0 (x : Nat) (hx : x < 18446744073709551616) (W w : World) (hb : Below W.heap.size W w) : Calls Try.prog 54 #[.int .u64 (x : Int), .slice (some ⟨w.heap.size, 0, none⟩) 1 1] (w.alloc (.cells #[.int .i64 0] 3)) fun e w' => e = .returned (.int .u64 ((E.getN x 12 44 * 1024 + 1 : Nat) : Int)) ∧ Below W.heap.size W w' := by
  have c1 := bits_0 W w hb
  have c2 : ∀ V, Below W.heap.size W V → Calls Try.prog 57 #[.int .u64 (x : Int)] V fun e w' => e = .returned (.int .u64 (E.getN x 12 44 : Nat)) ∧ Below W.heap.size W w' := fun V h => numberOf_any x hx W V h
  have c3 : ∀ V, Calls Try.prog 56 #[.int .u64 1, .int .i64 10, .int .i64 44, .int .u64 (E.getN x 12 44 : Nat)] V fun e w' => e = .returned (.int .u64 ((E.getN x 12 44 * 1024 + 1 : Nat) : Int)) ∧ w' = V := fun V => by
    rw [← put_10 1 (E.getN x 12 44) (by omega) (g12_lt x)]
    exact E.put_any 1 10 44 (E.getN x 12 44) (by omega) V
  generalize ((E.getN x 12 44 * 1024 + 1 : Nat) : Int) = r at *
  generalize E.getN x 12 44 = g at *
  go_enter Try.func54, Try.ntmps54
  go_wp2_with fail
  refine c1.mono ?_
  rintro e w1 ⟨rfl, -, hb1⟩
  go_wp2_with fail
  refine (c2 _ hb1).mono ?_
  rintro e w2 ⟨rfl, hb2⟩
  go_wp2_with fail
  refine (c3 _).mono ?_
  rintro e w3 ⟨rfl, hw⟩
  rw [hw]
  go_wp2_with fail
  go_ret
  exact ⟨rfl, hb2⟩
theorem naming_all (x : Nat) (hx : x < 18446744073709551616) (W w : World) (hb : Below W.heap.size W w) : Calls Try.prog 54 #[.int .u64 (x : Int), .slice (some ⟨w.heap.size, 0, none⟩) 6 6] (w.alloc (.cells #[.int .i64 0, .int .i64 1, .int .i64 2, .int .i64 3, .int .i64 6, .int .i64 7] 3)) fun e w' => e = .returned (.int .u64 ((E.getN x 12 44 * 1024 + 207 : Nat) : Int)) ∧ Below W.heap.size W w' := by
  have c1 := bits_all W w hb
  have c2 : ∀ V, Below W.heap.size W V → Calls Try.prog 57 #[.int .u64 (x : Int)] V fun e w' => e = .returned (.int .u64 (E.getN x 12 44 : Nat)) ∧ Below W.heap.size W w' := fun V h => numberOf_any x hx W V h
  have c3 : ∀ V, Calls Try.prog 56 #[.int .u64 207, .int .i64 10, .int .i64 44, .int .u64 (E.getN x 12 44 : Nat)] V fun e w' => e = .returned (.int .u64 ((E.getN x 12 44 * 1024 + 207 : Nat) : Int)) ∧ w' = V := fun V => by
    rw [← put_10 207 (E.getN x 12 44) (by omega) (g12_lt x)]
    exact E.put_any 207 10 44 (E.getN x 12 44) (by omega) V
  generalize ((E.getN x 12 44 * 1024 + 207 : Nat) : Int) = r at *
  generalize E.getN x 12 44 = g at *
  go_enter Try.func54, Try.ntmps54
  go_wp2_with fail
  refine c1.mono ?_
  rintro e w1 ⟨rfl, -, hb1⟩
  go_wp2_with fail
  refine (c2 _ hb1).mono ?_
  rintro e w2 ⟨rfl, hb2⟩
  go_wp2_with fail
  refine (c3 _).mono ?_
  rintro e w3 ⟨rfl, hw⟩
  rw [hw]
  go_wp2_with fail
  go_ret
  exact ⟨rfl, hb2⟩
theorem entry_any (x : Nat) (hx : x < 18446744073709551616) (W w : World) (hb : Below W.heap.size W w) : Calls Try.prog 26 #[.int .u64 (x : Int)] w fun e w' => e = .returned (.int .u64 ((E.getN x 12 44 * 1024 + 1 : Nat) : Int)) ∧ Below W.heap.size W w' := by
  have c1 := naming_0 x hx W w hb
  generalize ((E.getN x 12 44 * 1024 + 1 : Nat) : Int) = r at *
  go_enter Try.func26, Try.ntmps26
  go_wp2_with fail
  refine c1.mono ?_
  rintro e w1 ⟨rfl, hb1⟩
  go_wp2_with fail
  go_ret
  exact ⟨rfl, hb1⟩
theorem or_16 (g : Nat) (hg : g < 17592186044416) : bits .or .u64 ((g * 1024 + 207 : Nat) : Int) 16 = ((g * 1024 + 223 : Nat) : Int) := by
  have h := bits_or_u64_nat (g * 1024 + 207) 16 (by omega) (by omega)
  have e1 : g * 1024 + 207 = 2 ^ 10 * g ||| 207 := by rw [← Nat.two_pow_add_eq_or_of_lt (show 207 < 2 ^ 10 by decide)]; omega
  have e2 : g * 1024 + 223 = 2 ^ 10 * g ||| 223 := by rw [← Nat.two_pow_add_eq_or_of_lt (show 223 < 2 ^ 10 by decide)]; omega
  rw [show (g * 1024 + 207) ||| 16 = g * 1024 + 223 from by rw [e1, e2, Nat.or_assoc, show 207 ||| 16 = 223 from by decide]] at h
  exact h
def leafN (x : Nat) (u : Bool) : Nat := E.getN x 12 44 * 1024 + (if u then 223 else 207)
theorem leaf_any (x : Nat) (u : Bool) (hx : x < 18446744073709551616) (W w : World) (hb : Below W.heap.size W w) : Calls Try.prog 27 #[.int .u64 (x : Int), .bool u] w fun e w' => e = .returned (.int .u64 (leafN x u : Nat)) ∧ Below W.heap.size W w' := by
  have c1 := naming_all x hx W w hb
  cases u
  · show Calls Try.prog 27 #[.int .u64 (x : Int), .bool false] w fun e w' => e = .returned (.int .u64 ((E.getN x 12 44 * 1024 + 207 : Nat) : Int)) ∧ Below W.heap.size W w'
    generalize ((E.getN x 12 44 * 1024 + 207 : Nat) : Int) = r at *
    go_enter Try.func27, Try.ntmps27
    go_wp2_with fail
    refine c1.mono ?_
    rintro e w1 ⟨rfl, hb1⟩
    go_wp2_with fail
    go_ret
    exact ⟨rfl, hb1⟩
  · show Calls Try.prog 27 #[.int .u64 (x : Int), .bool true] w fun e w' => e = .returned (.int .u64 ((E.getN x 12 44 * 1024 + 223 : Nat) : Int)) ∧ Below W.heap.size W w'
    have HO := or_16 (E.getN x 12 44) (g12_lt x)
    generalize ((E.getN x 12 44 * 1024 + 207 : Nat) : Int) = r at *
    generalize ((E.getN x 12 44 * 1024 + 223 : Nat) : Int) = r2 at *
    go_enter Try.func27, Try.ntmps27
    go_wp2_with fail
    refine c1.mono ?_
    rintro e w1 ⟨rfl, hb1⟩
    go_wp2_with fail
    refine (bits_4 W w1 hb1).mono ?_
    rintro e w2 ⟨rfl, -, hb2⟩
    go_wp2_with fail
    go_ret
    exact ⟨rfl, hb2⟩
theorem satp_any (x : Nat) (hx : x < 18446744073709551616) (W w : World) (hb : Below W.heap.size W w) : Calls Try.prog 28 #[.int .u64 (x : Int)] w fun e w' => e = .returned (.int .u64 ((9223372036854775808 + E.getN x 12 44 : Nat) : Int)) ∧ Below W.heap.size W w' := by
  have c2 : Calls Try.prog 57 #[.int .u64 (x : Int)] w fun e w' => e = .returned (.int .u64 (E.getN x 12 44 : Nat)) ∧ Below W.heap.size W w' := numberOf_any x hx W w hb
  have c3 : ∀ V, Calls Try.prog 56 #[.int .u64 (E.getN x 12 44 : Nat), .int .i64 60, .int .i64 4, .int .u64 8] V fun e w' => e = .returned (.int .u64 ((9223372036854775808 + E.getN x 12 44 : Nat) : Int)) ∧ w' = V := fun V => by
    rw [← put_60 (E.getN x 12 44) (g12_lt x)]
    exact E.put_any (E.getN x 12 44) 60 4 8 (getN_lt _ _ _ hx) V
  generalize ((9223372036854775808 + E.getN x 12 44 : Nat) : Int) = r at *
  generalize E.getN x 12 44 = g at *
  go_enter Try.func28, Try.ntmps28
  go_wp2_with fail
  refine c2.mono ?_
  rintro e w2 ⟨rfl, hb2⟩
  go_wp2_with fail
  refine (c3 _).mono ?_
  rintro e w3 ⟨rfl, hw⟩
  rw [hw]
  go_wp2_with fail
  go_ret
  exact ⟨rfl, hb2⟩
theorem new_8192 (w : World) : Calls Try.prog 29 #[.int .u64 8192] w fun e w' => ∃ rb F, e = .returned (.tuple #[.pointer (some ⟨rb, 0, none⟩), .int .i64 0]) ∧ RamAt w' F rb 8192 0 (.pointer none) (fun _ => 0) ∧ (∀ k, F k → w.heap.size ≤ k) ∧ Below w.heap.size w w' := new_yes 8192 (by decide) w
theorem aw_leaf (w : World) : Calls Try.prog 27 #[.int .u64 2147483648, .bool false] w fun e w' => e = .returned (.int .u64 536871119) ∧ Below w.heap.size w w' := by
  have h := leaf_any 2147483648 false (by omega) w w (Below.refl _ _)
  rw [show leafN 2147483648 false = 536871119 from by decide +kernel] at h
  exact h
theorem aw_satp (w : World) : Calls Try.prog 28 #[.int .u64 2147483648] w fun e w' => e = .returned (.int .u64 9223372036855300096) ∧ Below w.heap.size w w' := by
  have h := satp_any 2147483648 (by omega) w w (Below.refl _ _)
  rw [show 9223372036854775808 + E.getN 2147483648 12 44 = 9223372036855300096 from by decide +kernel] at h
  exact h
theorem aw_store {w : World} {F : Nat → Prop} {rb : Nat} (h : RamAt w F rb 8192 0 (.pointer none) (fun _ => 0)) : Calls Try.prog 30 #[.pointer (some ⟨rb, 0, none⟩), .int .u64 2147483664, .int .i64 8, .int .u64 536871119] w fun e w' => e = .returned (.bool true) ∧ ∃ F', RamAt w' F' rb 8192 8 (.pointer none) (over (fun _ => 0) 2147483664 8 (byteAt 536871119)) ∧ Step F w F' w' :=
  (store_any h (by omega) 2147483664 8 536871119 (by omega) (by omega) (by omega)).mono fun e w' ⟨he, F', h1, h2⟩ => ⟨he, F', h1, h2⟩
theorem aw_num : walkR (over (fun _ => 0) 2147483664 8 (byteAt 536871119)) 8192 9223372036855300096 1 1 false false 2147488308 = (2147488308, false, false, 1) := by decide +kernel
theorem aw_walk {w : World} {F : Nat → Prop} {rb : Nat} (h : RamAt w F rb 8192 8 (.pointer none) (over (fun _ => 0) 2147483664 8 (byteAt 536871119))) : Calls Try.prog 12 #[.pointer (some ⟨rb, 0, none⟩), .agg #[.int .u64 9223372036855300096, .int .i64 1, .int .i64 1, .bool false, .bool false], .int .u64 2147488308] w fun e w' => e = .returned (.agg #[.int .u64 2147488308, .bool false, .bool false, .int .i64 1]) ∧ Below w.heap.size w w' := by
  have h1 := walk_any 9223372036855300096 1 1 false false 2147488308 (by omega) (by omega) h (by omega)
  rw [aw_num] at h1
  exact h1
set_option maxHeartbeats 1000000 in
theorem awake_any (w : World) : Calls Try.prog 8 #[] w fun e w' => e = .returned (.bool true) ∧ Below w.heap.size w w' := by
  go_enter Try.func8, Try.ntmps8
  go_wp2_with fail
  refine (new_8192 _).mono ?_
  rintro e w1 ⟨rb, F, rfl, h1, hF, hb1⟩
  have X1 : Hid (RamAt w1 F rb 8192 0 (.pointer none) (fun _ => 0) ∧ (∀ k, F k → w.heap.size ≤ k) ∧ Below w.heap.size w w1) := ⟨h1, hF, hb1⟩
  clear h1 hF hb1
  go_wp2_with fail
  refine (aw_leaf _).mono ?_
  rintro e w2 ⟨rfl, hb2⟩
  have X2 : Hid (RamAt w2 F rb 8192 0 (.pointer none) (fun _ => 0) ∧ (∀ k, F k → w.heap.size ≤ k) ∧ Below w.heap.size w w2) := ⟨X1.out.1.below hb2, X1.out.2.1, X1.out.2.2.trans (hb2.mono X1.out.2.2.size)⟩
  clear hb2 X1
  go_wp2_with fail
  refine (aw_store X2.out.1).mono ?_
  rintro e w3 ⟨rfl, F3, h3, hs3⟩
  have X3 : Hid (RamAt w3 F3 rb 8192 8 (.pointer none) (over (fun _ => 0) 2147483664 8 (byteAt 536871119)) ∧ Below w.heap.size w w3) := ⟨h3, X2.out.2.2.trans (hs3.below X2.out.2.2.size X2.out.2.1)⟩
  clear h3 hs3 X2
  go_wp2_with fail
  refine (aw_satp _).mono ?_
  rintro e w4 ⟨rfl, hb4⟩
  have X4 : Hid (RamAt w4 F3 rb 8192 8 (.pointer none) (over (fun _ => 0) 2147483664 8 (byteAt 536871119)) ∧ Below w.heap.size w w4) := ⟨X3.out.1.below hb4, X3.out.2.trans (hb4.mono X3.out.2.size)⟩
  clear hb4 X3
  go_wp2_with fail
  refine (aw_walk X4.out.1).mono ?_
  rintro e w5 ⟨rfl, hb5⟩
  have X5 : Hid (Below w.heap.size w w5) := X4.out.2.trans (hb5.mono X4.out.2.size)
  clear hb5 X4
  go_wp2_with fail
  go_ret
  exact ⟨rfl, X5.out.alloc X5.out.size _⟩
end Go.Proofs.Ytalgidnmmghejaa
