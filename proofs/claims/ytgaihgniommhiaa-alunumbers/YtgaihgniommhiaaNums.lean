/- The statement of layer 5 that what takes a number reckons as what takes a register. -/
import Derived.Test.YtgaihgniommhiaaAny
import Derived.Laws.NewBlocks
namespace Go.Proofs.Ytgaihgniommhiaa
open Go.RowKit
set_option linter.unusedVariables false
set_option linter.unusedSimpArgs false
def opsP : List Int := [31, 34, 35, 36, 39, 40, 33, 37, 38, 45, 47, 48, 49]
def opsQ : List Int := [22, 23, 24, 25, 26, 27, 28, 29, 30, 41, 42, 43, 44]
def opsT : List Int := [31, 22, 34, 23, 35, 24, 36, 25, 39, 26, 40, 27, 33, 28, 37, 29, 38, 30, 45, 41, 47, 42, 48, 43, 49, 44]
theorem opsT_p (k : Nat) (h : k < 13) : opsT[2 * k]? = some (opsP.getD k 0) := by
  have : ∀ k, k < 13 → opsT[2 * k]? = some (opsP.getD k 0) := by decide
  exact this k h
theorem opsT_q (k : Nat) (h : k < 13) : opsT[2 * k + 1]? = some (opsQ.getD k 0) := by
  have : ∀ k, k < 13 → opsT[2 * k + 1]? = some (opsQ.getD k 0) := by decide
  exact this k h
theorem pq_eq (k : Nat) (h : k < 13) (a b : Nat) : doV (opsP.getD k 0) a b = doV (opsQ.getD k 0) a b := by
  by_cases h0 : k = 0
  · subst h0; show doV 31 a b = doV 22 a b; rw [doV_31, doV_22]
  by_cases h1 : k = 1
  · subst h1; show doV 34 a b = doV 23 a b; rw [doV_34, doV_23]
  by_cases h2 : k = 2
  · subst h2; show doV 35 a b = doV 24 a b; rw [doV_35, doV_24]
  by_cases h3 : k = 3
  · subst h3; show doV 36 a b = doV 25 a b; rw [doV_36, doV_25]
  by_cases h4 : k = 4
  · subst h4; show doV 39 a b = doV 26 a b; rw [doV_39, doV_26]
  by_cases h5 : k = 5
  · subst h5; show doV 40 a b = doV 27 a b; rw [doV_40, doV_27]
  by_cases h6 : k = 6
  · subst h6; show doV 33 a b = doV 28 a b; rw [doV_33, doV_28]
  by_cases h7 : k = 7
  · subst h7; show doV 37 a b = doV 29 a b; rw [doV_37, doV_29]
  by_cases h8 : k = 8
  · subst h8; show doV 38 a b = doV 30 a b; rw [doV_38, doV_30]
  by_cases h9 : k = 9
  · subst h9; show doV 45 a b = doV 41 a b; rw [doV_45, doV_41]
  by_cases h10 : k = 10
  · subst h10; show doV 47 a b = doV 42 a b; rw [doV_47, doV_42]
  by_cases h11 : k = 11
  · subst h11; show doV 48 a b = doV 43 a b; rw [doV_48, doV_43]
  by_cases h12 : k = 12
  · subst h12; show doV 49 a b = doV 44 a b; rw [doV_49, doV_44]
  omega
theorem pz_eq (k : Nat) (h : k < 13) (h9 : 9 ≤ k) (a x b : Nat) (hx : x % 4294967296 = a % 4294967296) : doV (opsP.getD k 0) x b = doV (opsP.getD k 0) a b := by
  by_cases h9 : k = 9
  · subst h9; show doV 45 x b = doV 45 a b; rw [doV_45, doV_45, hx]
  by_cases h10 : k = 10
  · subst h10; show doV 47 x b = doV 47 a b; rw [doV_47, doV_47, hx]
  by_cases h11 : k = 11
  · subst h11; show doV 48 x b = doV 48 a b; rw [doV_48, doV_48, hx]
  by_cases h12 : k = 12
  · subst h12; show doV 49 x b = doV 49 a b; rw [doV_49, doV_49, hx]
  omega
theorem hi_xor (a c : Nat) : (a ^^^ (c * 4294967296 % 18446744073709551616)) % 4294967296 = a % 4294967296 := by
  apply Nat.eq_of_testBit_eq
  intro j
  rw [show (4294967296 : Nat) = 2 ^ 32 from by decide, show (18446744073709551616 : Nat) = 2 ^ 64 from by decide, Nat.testBit_mod_two_pow, Nat.testBit_mod_two_pow, Nat.testBit_xor, Nat.testBit_mod_two_pow, ← Nat.shiftLeft_eq, Nat.testBit_shiftLeft]
  by_cases h : j < 32
  · simp [h, show ¬ 32 ≤ j from by omega]
  · simp [h]
theorem xor_num (a c : Nat) (ha : a < 18446744073709551616) : ∃ x : Nat, x < 18446744073709551616 ∧ x % 4294967296 = a % 4294967296 ∧ bits .xor .u64 (a : Int) ((c : Int) * 4294967296 % 18446744073709551616) = (x : Int) ∧ bits .xor .u64 (a : Int) (IntKind.u64.wrap ((c : Int) * 4294967296)) = (x : Int) := by
  have hl : c * 4294967296 % 18446744073709551616 < 18446744073709551616 := Nat.mod_lt _ (by decide)
  have h := bits_xor_u64_nat a (c * 4294967296 % 18446744073709551616) ha hl
  have e : ((c * 4294967296 % 18446744073709551616 : Nat) : Int) = (c : Int) * 4294967296 % 18446744073709551616 := by omega
  rw [e] at h
  exact ⟨_, Nat.xor_lt_two_pow (n := 64) ha hl, hi_xor a c, h, by rw [wrap_u64]; exact h⟩
set_option maxHeartbeats 1600000 in
theorem nums_core (a b c : Nat) (ha : a < 18446744073709551616) (hb : b < 18446744073709551616) (hc : c < 18446744073709551616) (W w : World) (hw : Below W.heap.size W w) : Calls Try.prog 8 #[.int .u64 (a : Int), .int .u64 (b : Int), .int .u64 (c : Int)] w fun e w' => e = .returned (.bool true) ∧ Below W.heap.size W w' := by
  obtain ⟨x, hx, hlow, hx1, hx2⟩ := xor_num a c ha
  have hd : ∀ op w, Calls Try.prog 10 #[.int .i64 op, .int .u64 (a : Int), .int .u64 (b : Int)] w fun e w' => e = .returned (.tuple #[.int .u64 ((doV op a b : Nat) : Int), .bool (doOk op)]) ∧ w' = w := fun op w => do_any op a b ha hb w
  have hdx : ∀ op w, Calls Try.prog 10 #[.int .i64 op, .int .u64 (x : Int), .int .u64 (b : Int)] w fun e w' => e = .returned (.tuple #[.int .u64 ((doV op x b : Nat) : Int), .bool (doOk op)]) ∧ w' = w := fun op w => do_any op x b hx hb w
  go_enter Try.func8, Try.ntmps8
  go_wp2_with (go_at_call 9; refine (awake_any W _ (by assumption)).mono ?_; rintro e w1 ⟨rfl, hw1⟩)
  generalize hwl0 : w1.alloc _ = wl
  have hwl : w1.alloc (.cells (opsT.map fun z => Value.int .i64 z).toArray 30) = wl := hwl0
  clear hwl0
  have hcl : ∀ i v, opsT[i]? = some v → wl.cell? ⟨w1.heap.size, i, none⟩ = some (.int .i64 v) := by
    intro i v h
    rw [← hwl, World.cell?_alloc_new]
    simp [h]
  have hbl : Below W.heap.size W wl := by rw [← hwl]; exact hw1.alloc hw1.size _
  have HB : Hid (Below W.heap.size W wl) := hbl
  have HCL : Hid (∀ i v, opsT[i]? = some v → wl.cell? ⟨w1.heap.size, i, none⟩ = some (.int .i64 v)) := hcl
  clear hcl hbl hw hw1 hwl
  generalize w1.heap.size = g at *
  go_loopw [8] (fun i wr => ∃ k : Nat, k ≤ 13 ∧ i = .int .i64 k ∧ wr = wl) (fun i _ => 13 - (intOf i).toNat)
  case atStart => exact ⟨0, by omega, rfl, rfl⟩
  case round =>
    obtain ⟨k, hk, rfl, hwr⟩ := hrel
    rw [hwr]
    clear hwr
    by_cases hlt : k < 13
    · have hlt1 : (k : Int) < 13 := by omega
      have c1 := HCL.out _ _ (opsT_p k hlt)
      have c2 := HCL.out _ _ (opsT_q k hlt)
      have HP : Hid (doV (opsP.getD k 0) a b = doV (opsQ.getD k 0) a b) := pq_eq k hlt a b
      have et : k * 2 = 2 * k := by omega
      have et1 : 2 * k + 1 = k * 2 + 1 := by omega
      rw [← et] at c1
      rw [et1] at c2
      by_cases h9 : 9 ≤ k
      · have HZ : Hid (doV (opsP.getD k 0) x b = doV (opsP.getD k 0) a b) := pz_eq k hlt h9 a x b hlow
        have h91 : (9 : Int) ≤ k := by omega
        generalize opsP.getD k 0 = p at *
        generalize opsQ.getD k 0 = q at *
        have hdp := hd p
        have hdq := hd q
        have hdz := hdx p
        rw [← HP.out] at hdq
        rw [HZ.out] at hdz
        generalize doV p a b = v at *
        clear et et1 HP HZ hd hdx
        go_wp2_with fail
        refine (hdp _).mono ?_
        rintro e w2 ⟨rfl, h⟩; rw [h]; clear h
        go_wp2_with fail
        refine (hdq _).mono ?_
        rintro e w2 ⟨rfl, h⟩; rw [h]; clear h
        go_wp2_with fail
        refine (hdz _).mono ?_
        rintro e w2 ⟨rfl, h⟩; rw [h]; clear h
        go_wp2_with fail
        go_roundw
        case rel => exact ⟨k + 1, by omega, by go_num, by first | rfl | trivial⟩
        case measure => simp [intOf]; omega
      · have h91 : ¬ (9 : Int) ≤ k := by omega
        generalize opsP.getD k 0 = p at *
        generalize opsQ.getD k 0 = q at *
        have hdp := hd p
        have hdq := hd q
        have hdz := hdx p
        rw [← HP.out] at hdq
        generalize doV p a b = v at *
        generalize doV p x b = v2 at *
        clear et et1 HP hd hdx
        go_wp2_with fail
        refine (hdp _).mono ?_
        rintro e w2 ⟨rfl, h⟩; rw [h]; clear h
        go_wp2_with fail
        refine (hdq _).mono ?_
        rintro e w2 ⟨rfl, h⟩; rw [h]; clear h
        go_wp2_with fail
        refine (hdz _).mono ?_
        rintro e w2 ⟨rfl, h⟩; rw [h]; clear h
        go_wp2_with fail
        go_roundw
        case rel => exact ⟨k + 1, by omega, by go_num, by first | rfl | trivial⟩
        case measure => simp [intOf]; omega
    · obtain rfl : k = 13 := by omega
      go_wp2_with fail
      go_ret
      exact ⟨rfl, HB.out⟩
theorem nums_walk (W : World) (a0 : Int) (w0 : (Lit.int .u64 a0).wf = true) (a1 : Int) (w1 : (Lit.int .u64 a1).wf = true) (a2 : Int) (w2 : (Lit.int .u64 a2).wf = true) :
    Calls Try.prog 8 #[.int .u64 a0, .int .u64 a1, .int .u64 a2] W fun e w' => e = .returned (.bool true) ∧ Below W.heap.size W w' := by
  have b0 := bounds_u64 w0
  have b1 := bounds_u64 w1
  have b2 := bounds_u64 w2
  obtain ⟨z, rfl⟩ : ∃ x : Nat, a0 = x := ⟨a0.toNat, by omega⟩
  obtain ⟨x, rfl⟩ : ∃ x : Nat, a1 = x := ⟨a1.toNat, by omega⟩
  obtain ⟨y, rfl⟩ : ∃ y : Nat, a2 = y := ⟨a2.toNat, by omega⟩
  exact nums_core z x y (by omega) (by omega) (by omega) W W (Below.refl _ _)
end Go.Proofs.Ytgaihgniommhiaa
