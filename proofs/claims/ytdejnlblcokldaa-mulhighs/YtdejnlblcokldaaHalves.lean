/- The statements on what reckons with low halves of layer 6 return true for every input. -/
import Derived.Test.YtdejnlblcokldaaDo
import Derived.Laws.NewBlocks
import Derived.Deep.DeepCutAuto
namespace Go.Proofs.Ytdejnlblcokldaa
open Go.RowKit
set_option linter.unusedVariables false
set_option linter.unusedSimpArgs false
theorem sx32 (x : Nat) : sextA x 32 = if x % 4294967296 < 2147483648 then x % 4294967296 else x % 4294967296 + 18446744069414584320 := by
  rw [show (32 : Int) = ((32 : Nat) : Int) from rfl, sextA_in x 32 (by decide) (by decide)]
  unfold sextN
  rw [Nat.testBit_eq_decide_div_mod_eq]
  simp only [Nat.reduceSub, Nat.reducePow, decide_eq_true_eq]
  split <;> split <;> omega
theorem sx32_lt (x : Nat) : sextA x 32 < 18446744073709551616 := by rw [sx32]; split <;> omega
theorem sx32_again (x : Nat) : sextA (sextA x 32) 32 = sextA x 32 := by
  rw [sx32 (sextA x 32), sx32 x]
  split <;> split <;> omega
theorem hi_xor (a c : Nat) : (a ^^^ (c * 4294967296 % 18446744073709551616)) % 4294967296 = a % 4294967296 := by
  apply Nat.eq_of_testBit_eq
  intro j
  rw [show (4294967296 : Nat) = 2 ^ 32 from by decide, show (18446744073709551616 : Nat) = 2 ^ 64 from by decide, Nat.testBit_mod_two_pow, Nat.testBit_mod_two_pow, Nat.testBit_xor, Nat.testBit_mod_two_pow, ← Nat.shiftLeft_eq, Nat.testBit_shiftLeft]
  by_cases h : j < 32
  · simp [h, show ¬ 32 ≤ j from by omega]
  · simp [h]
theorem xor_num (a c : Nat) (ha : a < 18446744073709551616) : ∃ x : Nat, x < 18446744073709551616 ∧ x % 4294967296 = a % 4294967296 ∧ bits .xor .u64 (a : Int) ((c : Int) * 4294967296 % 18446744073709551616) = (x : Int) ∧ bits .xor .u64 (a : Int) (IntKind.u64.wrap ((c : Int) * 4294967296)) = (x : Int) := by
  have hl : c * 4294967296 % 18446744073709551616 < 18446744073709551616 := Nat.mod_lt _ (by decide)
  have h := bits_xor_u64_nat a (c * 4294967296 % 18446744073709551616) ha hl
  have e : ((c * 4294967296 % 18446744073709551616 : Nat) : Int) = (c : Int) * 4294967296 % 18446744073709551616 := by omega
  rw [e] at h
  exact ⟨_, Nat.xor_lt_two_pow (n := 64) ha hl, hi_xor a c, h, by rw [wrap_u64]; exact h⟩
theorem low_same (k a b x y : Nat) (hk : k < 5) (hx : x % 4294967296 = a % 4294967296) (hy : y % 4294967296 = b % 4294967296) : mulV (68 + (k : Int)) x y = mulV (68 + (k : Int)) a b ∧ mulOk (68 + (k : Int)) = true ∧ sextA (mulV (68 + (k : Int)) a b) 32 = mulV (68 + (k : Int)) a b ∧ mulV (68 + (k : Int)) a b < 18446744073709551616 := by
  by_cases h0 : k = 0
  · subst h0
    show mulV 68 x y = mulV 68 a b ∧ mulOk 68 = true ∧ sextA (mulV 68 a b) 32 = mulV 68 a b ∧ mulV 68 a b < 18446744073709551616
    rw [mulV_68, mulV_68, hx, hy]
    exact ⟨rfl, mulOk_68, sx32_again _, sx32_lt _⟩
  by_cases h1 : k = 1
  · subst h1
    show mulV 69 x y = mulV 69 a b ∧ mulOk 69 = true ∧ sextA (mulV 69 a b) 32 = mulV 69 a b ∧ mulV 69 a b < 18446744073709551616
    rw [mulV_69, mulV_69, hx, hy]
    exact ⟨rfl, mulOk_69, sx32_again _, sx32_lt _⟩
  by_cases h2 : k = 2
  · subst h2
    show mulV 70 x y = mulV 70 a b ∧ mulOk 70 = true ∧ sextA (mulV 70 a b) 32 = mulV 70 a b ∧ mulV 70 a b < 18446744073709551616
    rw [mulV_70, mulV_70, hx, hy]
    exact ⟨rfl, mulOk_70, sx32_again _, sx32_lt _⟩
  by_cases h3 : k = 3
  · subst h3
    show mulV 71 x y = mulV 71 a b ∧ mulOk 71 = true ∧ sextA (mulV 71 a b) 32 = mulV 71 a b ∧ mulV 71 a b < 18446744073709551616
    rw [mulV_71, mulV_71, hx, hy]
    exact ⟨rfl, mulOk_71, sx32_again _, sx32_lt _⟩
  by_cases h4 : k = 4
  · subst h4
    show mulV 72 x y = mulV 72 a b ∧ mulOk 72 = true ∧ sextA (mulV 72 a b) 32 = mulV 72 a b ∧ mulV 72 a b < 18446744073709551616
    rw [mulV_72, mulV_72, hx, hy]
    exact ⟨rfl, mulOk_72, sx32_again _, sx32_lt _⟩
  omega
def opsH : List Int := [68, 69, 70, 71, 72]
theorem opsH_at (k : Nat) (h : k < 5) : opsH[k]? = some (68 + (k : Int)) := by
  have : ∀ k : Nat, k < 5 → opsH[k]? = some (68 + (k : Int)) := by decide
  exact this k h
set_option maxHeartbeats 1600000 in
theorem halves_core (a b c : Nat) (ha : a < 18446744073709551616) (hb : b < 18446744073709551616) (hc : c < 18446744073709551616) (W w : World) (hw : Below W.heap.size W w) : Calls Try.prog 6 #[.int .u64 (a : Int), .int .u64 (b : Int), .int .u64 (c : Int)] w fun e w' => e = .returned (.bool true) ∧ Below W.heap.size W w' := by
  obtain ⟨x, hx, hlow, hx1, hx2⟩ := xor_num a c ha
  obtain ⟨y, hy, hlow2, hy1, hy2⟩ := xor_num b (c / 4294967296) hb
  have ec : ((c / 4294967296 : Nat) : Int) = (c : Int) / 4294967296 := by omega
  rw [ec] at hy1 hy2
  have ec2 : IntKind.u64.wrap ((c : Int) / 4294967296 * 4294967296) = (c : Int) / 4294967296 * 4294967296 := by rw [wrap_u64]; omega
  have hy3 : bits .xor .u64 (b : Int) ((c : Int) / 4294967296 * 4294967296) = (y : Int) := by rw [← ec2]; exact hy2
  clear ec ec2
  have hd : ∀ op w, Calls Try.prog 9 #[.int .i64 op, .int .u64 (a : Int), .int .u64 (b : Int)] w fun e w' => e = .returned (.tuple #[.int .u64 ((mulV op a b : Nat) : Int), .bool (mulOk op)]) ∧ w' = w := fun op w => do_any op a b ha hb w
  have hdx : ∀ op w, Calls Try.prog 9 #[.int .i64 op, .int .u64 (x : Int), .int .u64 (y : Int)] w fun e w' => e = .returned (.tuple #[.int .u64 ((mulV op x y : Nat) : Int), .bool (mulOk op)]) ∧ w' = w := fun op w => do_any op x y hx hy w
  go_enter Try.func6, Try.ntmps6
  go_wp2_with (go_at_call 8; refine (awake_any _).mono ?_; rintro e w1 ⟨rfl, rfl⟩)
  generalize hwl0 : w1.alloc _ = wl
  have hwl : w1.alloc (.cells (opsH.map fun z => Value.int .i64 z).toArray 3) = wl := hwl0
  clear hwl0
  have hcl : ∀ i v, opsH[i]? = some v → wl.cell? ⟨w1.heap.size, i, none⟩ = some (.int .i64 v) := by
    intro i v h
    rw [← hwl, World.cell?_alloc_new]
    simp [h]
  have hbl : Below W.heap.size W wl := by rw [← hwl]; exact hw.alloc hw.size _
  have hgs : w1.heap.size < wl.heap.size := by rw [← hwl]; simp
  have HB : Hid (Below W.heap.size W wl) := hbl
  have HG : Hid (W.heap.size ≤ wl.heap.size) := hbl.size
  have HCL : Hid (∀ i v, opsH[i]? = some v → wl.cell? ⟨w1.heap.size, i, none⟩ = some (.int .i64 v)) := hcl
  clear hcl hbl hw hwl
  generalize w1.heap.size = g at *
  go_loopw [8] (fun i wr => ∃ k : Nat, k ≤ 5 ∧ i = .int .i64 k ∧ Below wl.heap.size wl wr) (fun i _ => 5 - (intOf i).toNat)
  case atStart => exact ⟨0, by omega, rfl, Below.refl _ _⟩
  case round =>
    obtain ⟨k, hk, rfl, hbr⟩ := hrel
    by_cases hlt : k < 5
    · have hlt1 : (k : Int) < 5 := by omega
      have c1 := HCL.out _ _ (opsH_at k hlt)
      rw [← hbr.cell (p := ⟨g, k, none⟩) hgs] at c1
      obtain ⟨z1, z2, z3, z4⟩ := low_same k a b x y hlt hlow hlow2
      have hdp := hd (68 + (k : Int))
      have hdz := hdx (68 + (k : Int))
      rw [z1, z2] at hdz
      rw [z2] at hdp
      generalize mulV (68 + (k : Int)) a b = v at *
      have hs : Calls Try.prog 15 #[.int .u64 (v : Int), .int .i64 32] wr fun e w' => e = .returned (.int .u64 (v : Int)) ∧ Below wl.heap.size wl w' := by
        have h := rsext_all v 32 z4 wl wr hbr
        rw [z3] at h
        exact h
      have HBR : Hid (Below wl.heap.size wl wr) := hbr
      clear z1 z2 z3 hd hdx hbr
      generalize 68 + (k : Int) = op at *
      go_wp2_with fail
      refine (hdp _).mono ?_
      rintro e w2 ⟨rfl, hx⟩; rw [hx]; clear hx
      go_wp2_with fail
      refine (hdz _).mono ?_
      rintro e w2 ⟨rfl, hx⟩; rw [hx]; clear hx
      go_wp2_with fail
      refine hs.mono ?_
      rintro e w3 ⟨rfl, hb3⟩
      go_wp2_with fail
      go_roundw
      case rel => exact ⟨k + 1, by omega, by go_num, hb3⟩
      case measure => simp [intOf]; omega
    · obtain rfl : k = 5 := by omega
      go_wp2
      go_ret
      exact ⟨rfl, HB.out.trans (hbr.mono HG.out)⟩
theorem halves_walk (W : World) (a0 : Int) (w0 : (Lit.int .u64 a0).wf = true) (a1 : Int) (w1 : (Lit.int .u64 a1).wf = true) (a2 : Int) (w2 : (Lit.int .u64 a2).wf = true) :
    Calls Try.prog 6 #[.int .u64 a0, .int .u64 a1, .int .u64 a2] W fun e w' => e = .returned (.bool true) ∧ Below W.heap.size W w' := by
  have b0 := bounds_u64 w0
  have b1 := bounds_u64 w1
  have b2 := bounds_u64 w2
  obtain ⟨x, rfl⟩ : ∃ x : Nat, a0 = x := ⟨a0.toNat, by omega⟩
  obtain ⟨y, rfl⟩ : ∃ y : Nat, a1 = y := ⟨a1.toNat, by omega⟩
  obtain ⟨z, rfl⟩ : ∃ y : Nat, a2 = y := ⟨a2.toNat, by omega⟩
  exact halves_core x y z (by omega) (by omega) (by omega) W W (Below.refl _ _)
end Go.Proofs.Ytdejnlblcokldaa
