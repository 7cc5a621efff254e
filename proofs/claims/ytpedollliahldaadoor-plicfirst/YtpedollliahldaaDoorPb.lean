/- Package plic's call first: the first source of a context and its priority. -/
import Derived.Test.YtpedollliahldaaDoorPa
namespace Go.Proofs.YtpedollliahldaaDoor
open Go.RowKit
set_option linter.unusedVariables false
set_option linter.unusedSimpArgs false
set_option maxRecDepth 100000
theorem left_num (S : St) (h : S.Ok) (c : Nat) : bits .and .u32 (bits .and .u32 (S.waits : Int) (S.lets c : Int)) 4294967294 = ((leftN S c : Nat) : Int) := by
  have h1 : S.waits &&& S.lets c < 4294967296 := Nat.lt_of_le_of_lt Nat.and_le_left h.2.2.1
  rw [u32_and_nat _ _ h.2.2.1 (h.2.2.2.2.1 c)]
  have := u32_and_nat (S.waits &&& S.lets c) 4294967294 h1 (by decide)
  rw [show ((4294967294 : Nat) : Int) = 4294967294 from rfl] at this
  rw [this]
  rfl
theorem wrap_u64_small (x : Nat) (hx : x < 4294967296) : IntKind.u64.wrap (x : Int) = (x : Int) := by rw [wrap_u64]; omega
theorem less_num (x : Nat) (hx : x < 4294967296) (h0 : x ≠ 0) : IntKind.u64.wrap ((x : Int) - 1) = ((x - 1 : Nat) : Int) := by rw [wrap_u64]; omega
theorem low_num (x : Nat) (hx : x < 4294967296) (h0 : x ≠ 0) : bits .and .u64 (x : Int) ((x - 1 : Nat) : Int) = ((x &&& (x - 1) : Nat) : Int) := bits_and_u64_nat _ _ (by omega) (by omega)
theorem low_lt (x : Nat) (h0 : x ≠ 0) : x &&& (x - 1) < x := Nat.lt_of_le_of_lt Nat.and_le_right (by omega)
theorem lowest_ctz (x : Nat) (hx : x < 18446744073709551616) (h0 : x ≠ 0) (w : World) (ht : TabLies w) : Calls Tryd.prog 33 #[.int .u64 (x : Int)] w fun e w' => e = .returned (.int .i64 (Lib.ctz 64 x : Nat)) ∧ w' = w := by
  have h := lowest_any x hx w ht
  rw [lowM_ctz x hx h0] at h
  exact h
set_option maxHeartbeats 2000000 in
theorem first_any (b c : Nat) (hc : c < 2) (S : St) (hS : S.Ok) (w : World) (hx : Box 28 w b (progC S)) (ht : TabLies w) : Calls Tryd.prog 17 #[.pointer (some ⟨b, 0, none⟩), .int .i64 (c : Int)] w fun e w' => e = .returned (.tuple #[.int .i64 (firstN S c : Nat), .int .u32 (mostN S.prio (firstN S c) : Nat)]) ∧ Below w.heap.size w w' := by
  have f2 : w.cell? ⟨b, 33, none⟩ = some (.int .u32 (S.waits : Nat)) := hx.prog 33 (by omega)
  have f4 : w.cell? ⟨b, 35 + c, none⟩ = some (.int .u32 (S.lets c : Nat)) := by
    rw [hx.prog (35 + c) (by omega)]
    simp [progF, show 35 + c < 37 from by omega, show ¬ 35 + c < 32 from by omega, show ¬ 35 + c = 32 from by omega, show ¬ 35 + c = 33 from by omega, show ¬ 35 + c = 34 from by omega]
  have hn := left_num S hS c
  have hn2 := wrap_u64_small _ (leftN_lt S hS c)
  have HL : Hid (leftN S c < 4294967296 ∧ ∀ j, (leftN S c).testBit j = letB S c j) := ⟨leftN_lt S hS c, testBit_leftN S hS c⟩
  have HX : Hid (Box 28 w b (progC S) ∧ TabLies w ∧ S.Ok) := ⟨hx, ht, hS⟩
  have hc1 : (c : Int) < 2 := by omega
  have HC : Hid (c < 2) := hc
  clear hx ht hS hc
  have HF : Hid (∀ k, k ≤ 32 → (∀ i, k ≤ i → letB S c i = false) → fstU (letB S c) S.prio k = firstN S c) := fun k hk h => (fstU_skip _ _ k 32 hk (fun i h1 _ => h i h1)).symm
  go_enter Tryd.func17, Tryd.ntmps17
  go_wp2_with fail
  go_region
  go_wp2_with fail
  go_loopw [6, 7, 8] (fun bst mst lft wr => ∃ k x : Nat, k ≤ 32 ∧ x < 4294967296 ∧ bst = .int .i64 (fstU (letB S c) S.prio k : Nat) ∧ mst = .int .u32 (mostN S.prio (fstU (letB S c) S.prio k) : Nat) ∧ lft = .int .u64 (x : Int) ∧ (∀ j, x.testBit j = (decide (k ≤ j) && letB S c j)) ∧ Below w.heap.size w wr) (fun _ _ l _ => (intOf l).toNat)
  case atStart => exact ⟨0, leftN S c, by omega, HL.out.1, rfl, rfl, rfl, fun j => by rw [HL.out.2 j]; simp, Below.drew (Below.refl _ _)⟩
  case round =>
    obtain ⟨k, x, hk, hx, rfl, rfl, rfl, hb, hw⟩ := hrel
    clear f2 f4 hn hn2
    by_cases h0 : x = 0
    · subst h0
      have hf : fstU (letB S c) S.prio k = firstN S c := HF.out k hk (fun i hi => by have := hb i; simp [hi] at this; exact this)
      rw [hf]
      have HW : Hid (Below w.heap.size w wr) := hw
      clear hb hw hf hx
      go_wp2_with fail
      go_ret2
      exact ⟨rfl, HW.out⟩
    · obtain ⟨l1, l2, l3⟩ := low_next x (by omega) h0
      have hcz : ∀ V, TabLies V → Calls Tryd.prog 33 #[.int .u64 (x : Int)] V fun e w' => e = .returned (.int .i64 (Lib.ctz 64 x : Nat)) ∧ w' = V := fun V h => lowest_ctz x (by omega) h0 V h
      generalize Lib.ctz 64 x = z at *
      have m1 := less_num x hx h0
      have m2 := low_num x hx h0
      have m3 := low_lt x h0
      have t1 : k ≤ z ∧ letB S c z = true := by
        have := hb z
        rw [l1] at this
        simpa using this.symm
      have t2 : z < 32 := by
        refine Nat.lt_of_not_le fun hz => ?_
        have := bits_lt hx z hz
        rw [l1] at this
        cases this
      have t3 : fstU (letB S c) S.prio z = fstU (letB S c) S.prio k := fstU_skip _ _ k z t1.1 (fun i h1 h2 => by
        have h := hb i
        rw [l2 i h2] at h
        simpa [h1] using h.symm)
      have t4 : ∀ j, (x &&& (x - 1)).testBit j = (decide (z + 1 ≤ j) && letB S c j) := fun j => by
        rw [l3 j]
        by_cases e1 : j < z
        · rw [l2 j e1]; simp [show ¬ z + 1 ≤ j from by omega]
        · by_cases e2 : j = z
          · subst e2; simp [show ¬ j + 1 ≤ j from by omega]
          · rw [hb j]; simp [e2, show z + 1 ≤ j from by omega, show k ≤ j from by omega]
      have HT : Hid (TabLies wr) := HX.out.2.1.step hw
      have f0 : wr.cell? ⟨b, z, none⟩ = some (.int .u32 (S.prio z : Nat)) := by
        rw [(HX.out.1.step hw).prog z (by omega)]
        simp [progF, t2]
      have hz1 : (z : Int) < 32 := by omega
      have hx0 : ((x : Int) == 0) = false := by simp; omega
      have HW : Hid (Below w.heap.size w wr) := hw
      have HZ : Hid (x &&& (x - 1) < 4294967296 ∧ z + 1 ≤ 32 ∧ x &&& (x - 1) < x ∧ ∀ j, (x &&& (x - 1)).testBit j = (decide (z + 1 ≤ j) && letB S c j)) := ⟨by omega, by omega, m3, t4⟩
      have hfs : fstU (letB S c) S.prio (z + 1) = if letB S c z = true ∧ mostN S.prio (fstU (letB S c) S.prio z) < S.prio z then z else fstU (letB S c) S.prio z := rfl
      rw [t3] at hfs
      have hz0 : z ≠ 0 := fun e => by rw [e, letB_zero] at t1; exact absurd t1.2 (by simp)
      by_cases hgt : mostN S.prio (fstU (letB S c) S.prio k) < S.prio z
      · rw [if_pos ⟨t1.2, hgt⟩] at hfs
        have HR : Hid (fstU (letB S c) S.prio (z + 1) = z ∧ mostN S.prio z = S.prio z) := ⟨hfs, by unfold mostN; rw [if_neg hz0]⟩
        have hg2 : ((mostN S.prio (fstU (letB S c) S.prio k) : Nat) : Int) < (S.prio z : Nat) := by omega
        clear hfs hgt t1 t2 t3 t4 l1 l2 l3 hb hw hx h0 m3 hz0 HL HF hk
        generalize mostN S.prio (fstU (letB S c) S.prio k) = mm at *
        generalize fstU (letB S c) S.prio k = bb at *
        go_wp2_with (go_at_call 33; refine (hcz _ HT.out).mono ?_; rintro e w' ⟨rfl, rfl⟩)
        go_region
        go_wp2_with fail
        go_roundw
        case rel => exact ⟨z + 1, _, HZ.out.2.1, HZ.out.1, by rw [HR.out.1], by rw [HR.out.1, HR.out.2], rfl, HZ.out.2.2.2, HW.out.drew⟩
        case measure => simp [intOf]; have := HZ.out.2.2.1; omega
      · rw [if_neg (fun h => hgt h.2)] at hfs
        have HR : Hid (fstU (letB S c) S.prio (z + 1) = fstU (letB S c) S.prio k) := hfs
        have hg2 : ¬ ((mostN S.prio (fstU (letB S c) S.prio k) : Nat) : Int) < (S.prio z : Nat) := by omega
        clear hfs hgt t1 t2 t3 t4 l1 l2 l3 hb hw hx h0 m3 hz0 HL HF hk
        generalize hq1 : mostN S.prio (fstU (letB S c) S.prio k) = mm at *
        generalize hq2 : fstU (letB S c) S.prio k = bb at *
        have HQ : Hid (mostN S.prio (fstU (letB S c) S.prio (z + 1)) = mm) := by show _ = mm; rw [HR.out, hq1]
        clear hq1 hq2
        go_wp2_with (go_at_call 33; refine (hcz _ HT.out).mono ?_; rintro e w' ⟨rfl, rfl⟩)
        go_roundw
        case rel => exact ⟨z + 1, _, HZ.out.2.1, HZ.out.1, by rw [HR.out], by rw [HQ.out], rfl, HZ.out.2.2.2, HW.out⟩
        case measure => simp [intOf]; have := HZ.out.2.2.1; omega
end Go.Proofs.YtpedollliahldaaDoor
