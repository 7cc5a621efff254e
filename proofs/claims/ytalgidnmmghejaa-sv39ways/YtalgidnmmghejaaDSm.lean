/- The document's calls Mix, Pending and Bit of layer 8. -/
import Derived.Test.YtalgidnmmghejaaDOf
import Derived.Laws.Bits64
namespace Go.Proofs.Ytalgidnmmghejaa.E
open Go.RowKit
set_option linter.unusedVariables false
set_option linter.unusedSimpArgs false
set_option maxRecDepth 100000
theorem docC_list (m : Int) (K : Nat → Nat) : docC m K = (Value.int .i64 m :: (List.range 22).map fun j => Value.int .u64 (K j : Nat)).toArray := rfl
theorem docC_get (m : Int) (K : Nat → Nat) (j : Nat) (h : j < 22) : (docC m K)[j + 1]? = some (.int .u64 (K j : Nat)) := by
  rw [docC_list]; simp [h]
theorem xor_all (m : Nat) (hm : m < 18446744073709551616) : 18446744073709551615 ^^^ m = 18446744073709551615 - m := by
  apply Nat.eq_of_testBit_eq
  intro i
  rw [Nat.testBit_xor, show 18446744073709551615 - m = 2 ^ 64 - (m + 1) from by omega, Nat.testBit_two_pow_sub_succ (show m < 2 ^ 64 from hm), show (18446744073709551615 : Nat) = 2 ^ 64 - 1 from rfl, Nat.testBit_two_pow_sub_one]
  by_cases h : i < 64
  · simp [h]
  · have : m.testBit i = false := Nat.testBit_lt_two_pow (Nat.lt_of_lt_of_le (show m < 2 ^ 64 from hm) (Nat.pow_le_pow_right (by omega) (by omega)))
    simp [h, this]
theorem not_bits (m : Nat) (hm : m < 18446744073709551616) : bits .xor .u64 IntKind.u64.max (m : Int) = ((18446744073709551615 - m : Nat) : Int) := by
  rw [show IntKind.u64.max = ((18446744073709551615 : Nat) : Int) from rfl, bits_xor_u64_nat _ _ (by decide) hm, xor_all m hm]
theorem mix_any (o x m : Nat) (ho : o < 18446744073709551616) (hx : x < 18446744073709551616) (hm : m < 18446744073709551616) (w : World) : Calls Try.prog 81 #[.int .u64 (o : Int), .int .u64 (x : Int), .int .u64 (m : Int)] w fun e w' => e = .returned (.int .u64 (mixN o x m : Nat)) ∧ Below w.heap.size w w' := by
  have h1 : ∀ V, Calls Try.prog 45 #[.int .u64 (o : Int), .int .u64 ((18446744073709551615 - m : Nat) : Int)] V fun e w' => e = .returned (.int .u64 ((o &&& (18446744073709551615 - m) : Nat) : Int)) ∧ Below V.heap.size V w' := fun V => rand_any o _ ho (by omega) V
  have h2 : ∀ V, Calls Try.prog 45 #[.int .u64 (x : Int), .int .u64 (m : Int)] V fun e w' => e = .returned (.int .u64 ((x &&& m : Nat) : Int)) ∧ Below V.heap.size V w' := fun V => rand_any x m hx hm V
  have h3 : ∀ V, Calls Try.prog 95 #[.int .u64 ((o &&& (18446744073709551615 - m) : Nat) : Int), .int .u64 ((x &&& m : Nat) : Int)] V fun e w' => e = .returned (.int .u64 (mixN o x m : Nat)) ∧ Below V.heap.size V w' := fun V => ror_any _ _ (and_lt _ _ ho) (and_lt _ _ hx) V
  have hn := not_bits m hm
  generalize mixN o x m = r at *
  generalize ((o &&& (18446744073709551615 - m) : Nat) : Int) = p at *
  generalize ((x &&& m : Nat) : Int) = q at *
  generalize ((18446744073709551615 - m : Nat) : Int) = nm at *
  clear hm
  go_enter Try.func81, Try.ntmps81
  go_wp2_with fail
  refine (h1 _).mono ?_
  rintro e w1 ⟨rfl, hb1⟩
  go_wp2_with fail
  refine (h2 _).mono ?_
  rintro e w2 ⟨rfl, hb2⟩
  go_wp2_with fail
  refine (h3 _).mono ?_
  rintro e w3 ⟨rfl, hb3⟩
  go_wp2_with fail
  go_ret
  exact ⟨rfl, (hb1.trans (hb2.mono hb1.size)).trans (hb3.mono (hb1.trans (hb2.mono hb1.size)).size)⟩
theorem dbit_any (m : Int) (K : Nat → Nat) (at' : Nat) (j : Int) (hK : Ok K) (ha : at' < 22) (w : World) : Calls Try.prog 46 #[.agg (docC m K), .int .i64 (at' : Int), .int .i64 j] w fun e w' => e = .returned (.bool ((getN (K at') j 1 : Int) == 1)) ∧ Below w.heap.size w w' := by
  have h := fun V => rget_all (K at') j 1 (hK _) V V (Below.refl _ _)
  have hc : (docC m K)[at' + 1]? = some (.int .u64 (K at' : Nat)) := docC_get m K at' ha
  have hai : (at' : Int) < 22 := by omega
  generalize getN (K at') j 1 = y at *
  clear hK
  have HX : Hid (Box 52 (w.alloc (.cells (docC m K) 52)) w.heap.size (docC m K) ∧ Below w.heap.size w (w.alloc (.cells (docC m K) 52))) := ⟨Box.new _ _ _, (Below.refl _ _).alloc (Nat.le_refl _) _⟩
  go_enter Try.func46, Try.ntmps46
  go_upto_region 1 with fail
  have c1 : (w.alloc (.cells (docC m K) 52)).cell? ⟨w.heap.size, 1 + at', none⟩ = some (.int .u64 (K at' : Nat)) := HX.out.1.cell (1 + at') _ (by rw [Nat.add_comm]; exact hc)
  generalize w.alloc (.cells (docC m K) 52) = W at *
  clear hc ha
  go_wp2_with fail
  refine (h _).mono ?_
  rintro e w1 ⟨rfl, hb1⟩
  go_wp2_with fail
  go_ret
  exact ⟨rfl, HX.out.2.trans (hb1.mono HX.out.2.size)⟩
end Go.Proofs.Ytalgidnmmghejaa.E
