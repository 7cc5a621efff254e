/- The law ClintTicks. -/
import Derived.Test.YtaiagfdlglidfaaAw
namespace Go.Proofs.Ytaiagfdlglidfaa
open Go.RowKit
set_option linter.unusedVariables false
set_option linter.unusedSimpArgs false
set_option maxRecDepth 100000
/-- the sum of the first ticks, what is beyond 64 bits is lost -/
def sumT (z : List Int) : Nat → Nat
  | 0 => 0
  | i + 1 => tickR (sumT z i) (z.getD i 0).toNat
theorem sumT_lt (z : List Int) : ∀ i, sumT z i < 18446744073709551616
  | 0 => by simp [sumT]
  | i + 1 => tickR_lt _ _
theorem lines_f (c t : Nat) : linesR false c t = flN (decide (c ≤ t)) * 128 := by unfold linesR; simp [flN]; split <;> rfl
set_option maxHeartbeats 1000000 in
theorem ticks_core (c : Nat) (hc : c < 18446744073709551616) (a : Option Addr) (len cap : Nat) (z : List Int) (W : World) (hz : IsRow .u64 W a len cap z) : Calls Try.prog 6 #[.int .u64 (c : Int), .slice a len cap] W fun e w' => e = .returned (.bool true) ∧ Below W.heap.size W w' := by
  have HZ : Hid (IsRow .u64 W a len cap z) := hz
  have cs : ∀ p V, Box 26 V p #[.bool false, .int .u64 18446744073709551615, .int .u64 0] → Calls Try.prog 10 #[.pointer (some ⟨p, 0, none⟩), .int .u64 16384, .int .i64 8, .int .u64 (c : Int)] V fun e w' => e = .returned (.bool true) ∧ Box 26 w' p #[.bool false, .int .u64 (c : Int), .int .u64 0] ∧ Upon p V w' := fun p V hx => store_c8 p false 18446744073709551615 0 c (by decide) (by decide) hc V hx
  clear hz
  go_enter Try.func6, Try.ntmps6
  go_wp2_with fail
  refine (awake_any _).mono ?_
  rintro e w0 ⟨rfl, hb0⟩
  go_wp2_with fail
  refine (begin_any _).mono ?_
  rintro e w1 ⟨rfl, hb1⟩
  have hbA : Below W.heap.size W w1 := hb0.trans (hb1.mono hb0.size)
  clear hb0 hb1
  go_upto_region 4 with fail
  have hx1 := Box.new 26 w1 #[.bool false, .int .u64 18446744073709551615, .int .u64 0]
  have hb2 : Below W.heap.size W (w1.alloc (.cells #[.bool false, .int .u64 18446744073709551615, .int .u64 0] 26)) := hbA.alloc hbA.size _
  have hle := hbA.size
  generalize w1.alloc (.cells #[.bool false, .int .u64 18446744073709551615, .int .u64 0] 26) = w2 at *
  generalize w1.heap.size = b at *
  clear hbA
  go_wp2_with fail
  refine (cs _ _ hx1).mono ?_
  rintro e w3 ⟨rfl, hx3, hu⟩
  have X3 : Hid (Box 26 w3 b #[.bool false, .int .u64 (c : Int), .int .u64 (0 : Nat)] ∧ Below W.heap.size W w3) := ⟨hx3, hb2.trans (hu.below hle hb2.size)⟩
  have HL : Hid (W.heap.size ≤ b) := hle
  clear hx3 hu hb2 hle hx1 cs
  go_wp2_with fail
  go_loopw [6, 7] (fun n i wr => ∃ j : Nat, j ≤ len ∧ j ≤ 60 ∧ n = .int .u64 (sumT z j : Nat) ∧ i = .int .i64 j ∧ Box 26 wr b #[.bool false, .int .u64 (c : Int), .int .u64 (sumT z j : Nat)] ∧ Below W.heap.size W wr) (fun _ i _ => 60 - (intOf i).toNat)
  case atStart => exact ⟨0, by omega, by omega, rfl, rfl, X3.out.1, X3.out.2⟩
  case round =>
    obtain ⟨j, hj, hj6, rfl, rfl, hX, hbw⟩ := hrel
    have X : Hid (Box 26 wr b #[.bool false, .int .u64 (c : Int), .int .u64 (sumT z j : Nat)] ∧ Below W.heap.size W wr) := ⟨hX, hbw⟩
    clear hX hbw X3
    by_cases hlt : j < len
    · have hl1 : (j : Int) < (len : Int) := by omega
      by_cases h60 : j < 60
      · have hl2 : (j : Int) < 60 := by omega
        rcases HZ.out with ⟨_, h0, _⟩ | ⟨x, rfl, hlc, hcm, hzl, hcell, hwz⟩
        · omega
        obtain ⟨bb, off, rfl, hcell2⟩ := ints_at hcell (by omega)
        have hce := hcell2 j (by omega)
        have hbl : bb < W.heap.size := block_lt_of_cell hce
        have hmem := hwz (z.getD j 0) (by
          rw [List.getD_eq_getElem?_getD]
          have hjz : j < z.length := by omega
          rw [List.getElem?_eq_getElem hjz]
          simp)
        have hbd := bounds_u64 hmem
        obtain ⟨y, hy⟩ : ∃ y : Nat, z.getD j 0 = y := ⟨(z.getD j 0).toNat, by omega⟩
        have HS : Hid (sumT z (j + 1) = tickR (sumT z j) y) := by
          show sumT z (j + 1) = tickR (sumT z j) y
          rw [sumT, hy]; rfl
        rw [hy] at hce
        have HC : Hid (∀ V, Below W.heap.size W V → V.cell? ⟨bb, off + j, none⟩ = some (.int .u64 (y : Int))) := fun V hV => (hV.cell (p := ⟨bb, off + j, none⟩) hbl).trans hce
        have hyl : y < 18446744073709551616 := by omega
        have hsl := sumT_lt z j
        have HSL : Hid (tickR (sumT z j) y < 18446744073709551616) := tickR_lt _ _
        have hnum := tick_num (sumT z j) y
        clear hce hcell2 hcell hwz hmem hbd hy hbl
        generalize sumT z j = u at *
        have ht := fun V hV => tick_any b false c u y V hV
        generalize tickR u y = u2 at *
        have f := HC.out wr X.out.2
        go_wp2_with fail
        refine (ht _ X.out.1).mono ?_
        rintro e w4 ⟨rfl, hx4, hu4⟩
        have X4 : Hid (Box 26 w4 b #[.bool false, .int .u64 (c : Int), .int .u64 (u2 : Nat)] ∧ Below W.heap.size W w4) := ⟨hx4, X.out.2.trans (hu4.below HL.out X.out.2.size)⟩
        clear hx4 hu4 f
        have f := HC.out w4 X4.out.2
        have g := X4.out.1.cell 2 _ rfl
        have hcl := lines_any b false c u2 w4 X4.out.1
        rw [lines_f] at hcl
        have hcf := fun V => flag_any (decide (c ≤ u2)) V
        have hfl := flN_le (decide (c ≤ u2))
        have hcf2 : ∀ V, Calls Try.prog 17 #[.bool (decide ((c : Int) ≤ (u2 : Int)))] V fun e w' => e = .returned (.int .u64 (flN (decide (c ≤ u2)) : Nat)) ∧ w' = V := fun V => by
          have h := hcf V
          rw [show decide ((c : Int) ≤ (u2 : Int)) = decide (c ≤ u2) from by simp]
          exact h
        generalize hDD : decide (c ≤ u2) = dd at *
        generalize flN dd = fl at *
        have hne : ((u2 : Int) != (u2 : Int)) = false := by simp
        have hwm : IntKind.u64.wrap ((fl : Int) * 128) = (fl : Int) * 128 := by rw [wrap_u64]; omega
        go_wp2_with fail
        refine hcl.mono ?_
        rintro e w5 ⟨rfl, hb5⟩
        have X5 : Hid (Box 26 w5 b #[.bool false, .int .u64 (c : Int), .int .u64 (u2 : Nat)] ∧ Below W.heap.size W w5) := ⟨X4.out.1.step hb5, X4.out.2.trans (hb5.mono X4.out.2.size)⟩
        clear hb5 f g
        go_wp2_with fail
        first | refine (hcf2 _).mono ?_ | refine (hcf _).mono ?_
        rintro e w' ⟨rfl, hw⟩
        rw [hw]
        clear hw w'
        go_wp2_with fail
        go_roundw
        case rel => exact ⟨j + 1, by omega, by omega, by rw [HS.out], by go_num, by rw [HS.out]; exact X5.out.1, X5.out.2⟩
        case measure => simp [intOf]; omega
      · have hl2 : ¬ (j : Int) < 60 := by omega
        go_wp2_with fail
        go_ret
        exact ⟨rfl, X.out.2⟩
    · have hl1 : ¬ (j : Int) < (len : Int) := by omega
      go_wp2_with fail
      go_ret
      exact ⟨rfl, X.out.2⟩
theorem ticks_walk (W : World) (a0 : Int) (w0 : (Lit.int .u64 a0).wf = true) (a : Option Addr) (len cap : Nat) (z : List Int) (hz : IsRow .u64 W a len cap z) : Calls Try.prog 6 #[.int .u64 a0, .slice a len cap] W fun e w' => e = .returned (.bool true) ∧ Below W.heap.size W w' := by
  have b0 := bounds_u64 w0
  obtain ⟨x, rfl⟩ : ∃ x : Nat, a0 = x := ⟨a0.toNat, by omega⟩
  exact ticks_core x (by omega) a len cap z W hz
end Go.Proofs.Ytaiagfdlglidfaa
