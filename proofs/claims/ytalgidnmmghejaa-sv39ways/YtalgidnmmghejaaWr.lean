/- The program's call Write of layer 8, register by register. -/
import Derived.Test.YtalgidnmmghejaaFl
namespace Go.Proofs.Ytalgidnmmghejaa.E
open Go.RowKit
set_option linter.unusedVariables false
set_option linter.unusedSimpArgs false
set_option maxRecDepth 100000
theorem bits_two : hiOf (setF (fun _ => 1) 1) 64 0 = 2 := by decide +kernel
theorem bits_one (V : World) (g cp : Nat) (hg : V.cell? ⟨g, 0, none⟩ = some (.int .i64 1)) : Calls Try.prog 55 #[.slice (some ⟨g, 0, none⟩) 1 cp] V fun e w' => e = .returned (.int .u64 2) ∧ w' = V := by
  have h := wbits_any (fun _ => 1) 1 (.slice (some ⟨g, 0, none⟩) 1 cp) (by omega) V (.inr ⟨g, 0, cp, rfl, fun i hi => by rw [show 0 + i = 0 from by omega]; exact hg⟩)
  rw [bits_two] at h
  exact h
theorem below_undrew {w w1 : World} (h : Below w.drew.heap.size w.drew w1) : Below w.heap.size w w1 := (Below.drew (Below.refl w.heap.size w)).trans h
theorem below_call {wr X w4 : World} (h : Below wr.heap.size wr X) (hb : Below X.heap.size X w4) : Below wr.heap.size wr w4 := h.trans (hb.mono h.size)
set_option maxHeartbeats 1000000 in
theorem wr_768 (m : Int) (K : Nat → Nat) (x b : Nat) (hK : Ok K) (hx : x < 18446744073709551616) (w : World) (hB : Box 49 w b (fileC m K)) : Calls Try.prog 42 #[.pointer (some ⟨b, 0, none⟩), .int .i64 768, .int .u64 (x : Int)] w fun e w' => e = .returned (.tuple #[]) ∧ Box 49 w' b (fileC m (upd K 0 (mixN (K 0) x (smask x)))) ∧ Upon b w w' := by
  have HB : Hid (Box 49 w b (fileC m K)) := hB
  have HK : Hid (Ok K) := hK
  have c0 : w.cell? ⟨b, 1, none⟩ = some (.int .u64 (K 0 : Nat)) := hB.cell 1 _ rfl
  have f0 := hB.frozen 1
  have hm : ∀ V, Calls Try.prog 78 #[.int .u64 (x : Int)] V fun e w' => e = .returned (.int .u64 (smask x : Nat)) ∧ Below V.heap.size V w' := fun V => smask_any x hx V
  have hc : ∀ V, Calls Try.prog 77 #[.int .u64 (K 0 : Nat), .int .u64 (x : Int), .int .u64 (smask x : Nat)] V fun e w' => e = .returned (.int .u64 (mixN (K 0) x (smask x) : Nat)) ∧ w' = V := fun V => taken_any (K 0) x (smask x) (HK.out _) hx (smask_lt x) V
  generalize (mixN (K 0) x (smask x)) = y at *
  generalize smask x = sm at *
  clear hx hB hK
  go_enter Try.func42, Try.ntmps42
  go_wp2_with fail
  go_region_with (first | (go_at_call 78; (with_reducible refine Calls.mono (hm _) ?_); rintro e w1 ⟨rfl, hb1⟩; have X1 : Hid (Below w.heap.size w w1) := below_call (by repeat (first | exact Below.refl _ _ | with_reducible refine Below.drew ?_)) hb1; have d0 : w1.cell? ⟨b, 1, none⟩ = some (.int .u64 (K 0 : Nat)) := (HB.out.step X1.out).cell 1 _ rfl; have g0 := (HB.out.step X1.out).frozen 1; clear hb1) | (go_at_call 77; (with_reducible refine Calls.mono (hc _) ?_); rintro e w2 ⟨rfl, rfl⟩))
  all_goals go_wp2_with fail
  all_goals go_end0
  all_goals exact ⟨rfl, (by rw [← (set_fileC m K _).1]; exact (HB.out.step X1.out).set 1 _), (Upon.of_below X1.out).set 1 _⟩
set_option maxHeartbeats 1000000 in
theorem wr_256 (m : Int) (K : Nat → Nat) (x b : Nat) (hK : Ok K) (hx : x < 18446744073709551616) (w : World) (hB : Box 49 w b (fileC m K)) : Calls Try.prog 42 #[.pointer (some ⟨b, 0, none⟩), .int .i64 256, .int .u64 (x : Int)] w fun e w' => e = .returned (.tuple #[]) ∧ Box 49 w' b (fileC m (upd K 0 (mixN (K 0) x 786722))) ∧ Upon b w w' := by
  have HB : Hid (Box 49 w b (fileC m K)) := hB
  have HK : Hid (Ok K) := hK
  have c0 : w.cell? ⟨b, 1, none⟩ = some (.int .u64 (K 0 : Nat)) := hB.cell 1 _ rfl
  have f0 := hB.frozen 1
  have hc : ∀ V, Calls Try.prog 77 #[.int .u64 (K 0 : Nat), .int .u64 (x : Int), .int .u64 786722] V fun e w' => e = .returned (.int .u64 (mixN (K 0) x 786722 : Nat)) ∧ Below V.heap.size V w' := fun V => (taken_any (K 0) x 786722 (HK.out _) hx (by decide) V).mono fun e w2 ⟨he, hw⟩ => ⟨he, by rw [hw]; exact Below.refl _ _⟩
  generalize (mixN (K 0) x 786722) = y at *
  clear hx hB hK
  go_enter Try.func42, Try.ntmps42
  go_wp2_with fail
  refine (hc _).mono ?_
  rintro e w1 ⟨rfl, hb1⟩
  have X1 : Hid (Below w.heap.size w w1) := hb1
  have d0 := (HB.out.step X1.out).cell 1 _ rfl
  have g0 := (HB.out.step X1.out).frozen 1
  clear hb1
  go_wp2_with fail
  go_end0
  exact ⟨rfl, (by rw [← (set_fileC m K _).1]; exact (HB.out.step X1.out).set 1 _), (Upon.of_below X1.out).set 1 _⟩
set_option maxHeartbeats 1000000 in
theorem wr_770 (m : Int) (K : Nat → Nat) (x b : Nat) (hK : Ok K) (hx : x < 18446744073709551616) (w : World) (hB : Box 49 w b (fileC m K)) : Calls Try.prog 42 #[.pointer (some ⟨b, 0, none⟩), .int .i64 770, .int .u64 (x : Int)] w fun e w' => e = .returned (.tuple #[]) ∧ Box 49 w' b (fileC m (upd K 3 (x &&& 46079))) ∧ Upon b w w' := by
  have HB : Hid (Box 49 w b (fileC m K)) := hB
  have HK : Hid (Ok K) := hK
  have c3 : w.cell? ⟨b, 2, none⟩ = some (.int .u64 (K 3 : Nat)) := hB.cell 2 _ rfl
  have f3 := hB.frozen 2
  have hv : bits .and .u64 (x : Int) 46079 = ((x &&& 46079 : Nat) : Int) := bits_and_u64_nat x 46079 hx (by decide)
  generalize (x &&& 46079) = y at *
  clear hx
  clear hB hK
  go_enter Try.func42, Try.ntmps42
  go_wp2
  go_end0
  exact ⟨rfl, (by rw [← (set_fileC m K _).2.2.2.1]; exact HB.out.set 2 _), (Upon.refl _ _).set 2 _⟩
set_option maxHeartbeats 1000000 in
theorem wr_771 (m : Int) (K : Nat → Nat) (x b : Nat) (hK : Ok K) (hx : x < 18446744073709551616) (w : World) (hB : Box 49 w b (fileC m K)) : Calls Try.prog 42 #[.pointer (some ⟨b, 0, none⟩), .int .i64 771, .int .u64 (x : Int)] w fun e w' => e = .returned (.tuple #[]) ∧ Box 49 w' b (fileC m (upd K 4 (x &&& 546))) ∧ Upon b w w' := by
  have HB : Hid (Box 49 w b (fileC m K)) := hB
  have HK : Hid (Ok K) := hK
  have c4 : w.cell? ⟨b, 3, none⟩ = some (.int .u64 (K 4 : Nat)) := hB.cell 3 _ rfl
  have f4 := hB.frozen 3
  have hv : bits .and .u64 (x : Int) 546 = ((x &&& 546 : Nat) : Int) := bits_and_u64_nat x 546 hx (by decide)
  generalize (x &&& 546) = y at *
  clear hx
  clear hB hK
  go_enter Try.func42, Try.ntmps42
  go_wp2
  go_end0
  exact ⟨rfl, (by rw [← (set_fileC m K _).2.2.2.2.1]; exact HB.out.set 3 _), (Upon.refl _ _).set 3 _⟩
set_option maxHeartbeats 1000000 in
theorem wr_772 (m : Int) (K : Nat → Nat) (x b : Nat) (hK : Ok K) (hx : x < 18446744073709551616) (w : World) (hB : Box 49 w b (fileC m K)) : Calls Try.prog 42 #[.pointer (some ⟨b, 0, none⟩), .int .i64 772, .int .u64 (x : Int)] w fun e w' => e = .returned (.tuple #[]) ∧ Box 49 w' b (fileC m (upd K 5 (x &&& 2730))) ∧ Upon b w w' := by
  have HB : Hid (Box 49 w b (fileC m K)) := hB
  have HK : Hid (Ok K) := hK
  have c5 : w.cell? ⟨b, 4, none⟩ = some (.int .u64 (K 5 : Nat)) := hB.cell 4 _ rfl
  have f5 := hB.frozen 4
  have hv : bits .and .u64 (x : Int) 2730 = ((x &&& 2730 : Nat) : Int) := bits_and_u64_nat x 2730 hx (by decide)
  generalize (x &&& 2730) = y at *
  clear hx
  clear hB hK
  go_enter Try.func42, Try.ntmps42
  go_wp2
  go_end0
  exact ⟨rfl, (by rw [← (set_fileC m K _).2.2.2.2.2.1]; exact HB.out.set 4 _), (Upon.refl _ _).set 4 _⟩
set_option maxHeartbeats 1000000 in
theorem wr_260 (m : Int) (K : Nat → Nat) (x b : Nat) (hK : Ok K) (hx : x < 18446744073709551616) (w : World) (hB : Box 49 w b (fileC m K)) : Calls Try.prog 42 #[.pointer (some ⟨b, 0, none⟩), .int .i64 260, .int .u64 (x : Int)] w fun e w' => e = .returned (.tuple #[]) ∧ Box 49 w' b (fileC m (upd K 5 (mixN (K 5) x (K 4)))) ∧ Upon b w w' := by
  have HB : Hid (Box 49 w b (fileC m K)) := hB
  have HK : Hid (Ok K) := hK
  have c5 : w.cell? ⟨b, 4, none⟩ = some (.int .u64 (K 5 : Nat)) := hB.cell 4 _ rfl
  have c4 : w.cell? ⟨b, 3, none⟩ = some (.int .u64 (K 4 : Nat)) := hB.cell 3 _ rfl
  have f5 := hB.frozen 4
  have hc : ∀ V, Calls Try.prog 77 #[.int .u64 (K 5 : Nat), .int .u64 (x : Int), .int .u64 (K 4 : Nat)] V fun e w' => e = .returned (.int .u64 (mixN (K 5) x (K 4) : Nat)) ∧ w' = V := fun V => taken_any (K 5) x (K 4) (HK.out _) hx (HK.out _) V
  generalize (mixN (K 5) x (K 4)) = y at *
  clear hx hB hK
  go_enter Try.func42, Try.ntmps42
  go_wp2_with fail
  go_region_with (first | (go_at_call 77; (with_reducible refine Calls.mono (hc _) ?_); rintro e w2 ⟨rfl, rfl⟩))
  all_goals go_wp2_with fail
  all_goals go_end0
  all_goals have X1 : Below w.heap.size w w.drew := Below.drew (Below.refl _ _)
  all_goals exact ⟨rfl, (by rw [← (set_fileC m K _).2.2.2.2.2.1]; exact (HB.out.step X1).set 4 _), (Upon.of_below X1).set 4 _⟩
set_option maxHeartbeats 1000000 in
theorem wr_836 (m : Int) (K : Nat → Nat) (x b : Nat) (hK : Ok K) (hx : x < 18446744073709551616) (w : World) (hB : Box 49 w b (fileC m K)) : Calls Try.prog 42 #[.pointer (some ⟨b, 0, none⟩), .int .i64 836, .int .u64 (x : Int)] w fun e w' => e = .returned (.tuple #[]) ∧ Box 49 w' b (fileC m (upd K 1 (x &&& 546))) ∧ Upon b w w' := by
  have HB : Hid (Box 49 w b (fileC m K)) := hB
  have HK : Hid (Ok K) := hK
  have c1 : w.cell? ⟨b, 5, none⟩ = some (.int .u64 (K 1 : Nat)) := hB.cell 5 _ rfl
  have f1 := hB.frozen 5
  have hv : bits .and .u64 (x : Int) 546 = ((x &&& 546 : Nat) : Int) := bits_and_u64_nat x 546 hx (by decide)
  generalize (x &&& 546) = y at *
  clear hx
  clear hB hK
  go_enter Try.func42, Try.ntmps42
  go_wp2
  go_end0
  exact ⟨rfl, (by rw [← (set_fileC m K _).2.1]; exact HB.out.set 5 _), (Upon.refl _ _).set 5 _⟩
set_option maxHeartbeats 20000000 in
theorem wr_324 (m : Int) (K : Nat → Nat) (x b : Nat) (hK : Ok K) (hx : x < 18446744073709551616) (w : World) (hB : Box 49 w b (fileC m K)) : Calls Try.prog 42 #[.pointer (some ⟨b, 0, none⟩), .int .i64 324, .int .u64 (x : Int)] w fun e w' => e = .returned (.tuple #[]) ∧ Box 49 w' b (fileC m (upd K 1 (mixN (K 1) x (K 4 &&& 2)))) ∧ Upon b w w' := by
  have HB : Hid (Box 49 w b (fileC m K)) := hB
  have HK : Hid (Ok K) := hK
  have c1 : w.cell? ⟨b, 5, none⟩ = some (.int .u64 (K 1 : Nat)) := hB.cell 5 _ rfl
  have c4 : w.cell? ⟨b, 3, none⟩ = some (.int .u64 (K 4 : Nat)) := hB.cell 3 _ rfl
  have f1 := hB.frozen 5
  have hw : ∀ V g cp, V.cell? ⟨g, 0, none⟩ = some (.int .i64 1) → Calls Try.prog 55 #[.slice (some ⟨g, 0, none⟩) 1 cp] V fun e w' => e = .returned (.int .u64 2) ∧ w' = V := fun V g cp hg => bits_one V g cp hg
  have hand : bits .and .u64 ((K 4 : Nat) : Int) 2 = ((K 4 &&& 2 : Nat) : Int) := bits_and_u64_nat (K 4) 2 (HK.out _) (by decide)
  have hc : ∀ V, Calls Try.prog 77 #[.int .u64 (K 1 : Nat), .int .u64 (x : Int), .int .u64 ((K 4 &&& 2 : Nat) : Int)] V fun e w' => e = .returned (.int .u64 (mixN (K 1) x (K 4 &&& 2) : Nat)) ∧ w' = V := fun V => taken_any (K 1) x (K 4 &&& 2) (HK.out _) hx (and_lt _ _ (HK.out _)) V
  generalize (mixN (K 1) x (K 4 &&& 2)) = y at *
  generalize ((K 4 &&& 2 : Nat) : Int) = z at *
  have hz : (w.alloc (.cells #[.int .i64 1] 3)).drew.cell? ⟨w.heap.size, 0, none⟩ = some (.int .i64 1) := (Box.new 3 w _).cell 0 _ rfl
  have a1 : (w.alloc (.cells #[.int .i64 1] 3)).cell? ⟨b, 5, none⟩ = some (.int .u64 (K 1 : Nat)) := (HB.out.alloc _).cell 5 _ rfl
  have a4 : (w.alloc (.cells #[.int .i64 1] 3)).cell? ⟨b, 3, none⟩ = some (.int .u64 (K 4 : Nat)) := (HB.out.alloc _).cell 3 _ rfl
  have af := (HB.out.alloc (.cells #[.int .i64 1] 3)).frozen 5
  clear hx hB hK
  go_enter Try.func42, Try.ntmps42
  go_wp2_with fail
  go_region_with (first | (go_at_call 55; (with_reducible refine Calls.mono (hw _ _ _ hz) ?_); rintro e w1 ⟨rfl, hw1⟩; rw [hw1]; clear hw1) | (go_at_call 77; (with_reducible refine Calls.mono (hc _) ?_); rintro e w2 ⟨rfl, hw2⟩; rw [hw2]; clear hw2))
  all_goals go_wp2_with fail
  all_goals go_end0
  all_goals have X1 : Below w.heap.size w (w.alloc (.cells #[.int .i64 1] 3)).drew := Below.drew ((Below.refl _ _).alloc (Nat.le_refl _) _)
  all_goals exact ⟨rfl, (by rw [← (set_fileC m K _).2.1]; exact (HB.out.step X1).set 5 _), (Upon.of_below X1).set 5 _⟩
set_option maxHeartbeats 1000000 in
theorem wr_773 (m : Int) (K : Nat → Nat) (x b : Nat) (hK : Ok K) (hx : x < 18446744073709551616) (w : World) (hB : Box 49 w b (fileC m K)) : Calls Try.prog 42 #[.pointer (some ⟨b, 0, none⟩), .int .i64 773, .int .u64 (x : Int)] w fun e w' => e = .returned (.tuple #[]) ∧ Box 49 w' b (fileC m (upd K 6 (vecN (K 6) x))) ∧ Upon b w w' := by
  have HB : Hid (Box 49 w b (fileC m K)) := hB
  have HK : Hid (Ok K) := hK
  have c6 : w.cell? ⟨b, 7, none⟩ = some (.int .u64 (K 6 : Nat)) := hB.cell 7 _ rfl
  have f6 := hB.frozen 7
  have hc : ∀ V, Calls Try.prog 79 #[.int .u64 (K 6 : Nat), .int .u64 (x : Int)] V fun e w' => e = .returned (.int .u64 (vecN (K 6) x : Nat)) ∧ Below V.heap.size V w' := fun V => vec_any (K 6) x hx V
  generalize (vecN (K 6) x) = y at *
  clear hx hB hK
  go_enter Try.func42, Try.ntmps42
  go_wp2_with fail
  refine (hc _).mono ?_
  rintro e w1 ⟨rfl, hb1⟩
  have X1 : Hid (Below w.heap.size w w1) := hb1
  have d6 := (HB.out.step X1.out).cell 7 _ rfl
  have g6 := (HB.out.step X1.out).frozen 7
  clear hb1
  go_wp2_with fail
  go_end0
  exact ⟨rfl, (by rw [← (set_fileC m K _).2.2.2.2.2.2.1]; exact (HB.out.step X1.out).set 7 _), (Upon.of_below X1.out).set 7 _⟩
set_option maxHeartbeats 1000000 in
theorem wr_261 (m : Int) (K : Nat → Nat) (x b : Nat) (hK : Ok K) (hx : x < 18446744073709551616) (w : World) (hB : Box 49 w b (fileC m K)) : Calls Try.prog 42 #[.pointer (some ⟨b, 0, none⟩), .int .i64 261, .int .u64 (x : Int)] w fun e w' => e = .returned (.tuple #[]) ∧ Box 49 w' b (fileC m (upd K 12 (vecN (K 12) x))) ∧ Upon b w w' := by
  have HB : Hid (Box 49 w b (fileC m K)) := hB
  have HK : Hid (Ok K) := hK
  have c12 : w.cell? ⟨b, 13, none⟩ = some (.int .u64 (K 12 : Nat)) := hB.cell 13 _ rfl
  have f12 := hB.frozen 13
  have hc : ∀ V, Calls Try.prog 79 #[.int .u64 (K 12 : Nat), .int .u64 (x : Int)] V fun e w' => e = .returned (.int .u64 (vecN (K 12) x : Nat)) ∧ Below V.heap.size V w' := fun V => vec_any (K 12) x hx V
  generalize (vecN (K 12) x) = y at *
  clear hx hB hK
  go_enter Try.func42, Try.ntmps42
  go_wp2_with fail
  refine (hc _).mono ?_
  rintro e w1 ⟨rfl, hb1⟩
  have X1 : Hid (Below w.heap.size w w1) := hb1
  have d12 := (HB.out.step X1.out).cell 13 _ rfl
  have g12 := (HB.out.step X1.out).frozen 13
  clear hb1
  go_wp2_with fail
  go_end0
  exact ⟨rfl, (by rw [← (set_fileC m K _).2.2.2.2.2.2.2.2.2.2.2.2.1]; exact (HB.out.step X1.out).set 13 _), (Upon.of_below X1.out).set 13 _⟩
set_option maxHeartbeats 1000000 in
theorem wr_774 (m : Int) (K : Nat → Nat) (x b : Nat) (hK : Ok K) (hx : x < 18446744073709551616) (w : World) (hB : Box 49 w b (fileC m K)) : Calls Try.prog 42 #[.pointer (some ⟨b, 0, none⟩), .int .i64 774, .int .u64 (x : Int)] w fun e w' => e = .returned (.tuple #[]) ∧ Box 49 w' b (fileC m (upd K 7 (x &&& 7))) ∧ Upon b w w' := by
  have HB : Hid (Box 49 w b (fileC m K)) := hB
  have HK : Hid (Ok K) := hK
  have c7 : w.cell? ⟨b, 8, none⟩ = some (.int .u64 (K 7 : Nat)) := hB.cell 8 _ rfl
  have f7 := hB.frozen 8
  have hv : bits .and .u64 (x : Int) 7 = ((x &&& 7 : Nat) : Int) := bits_and_u64_nat x 7 hx (by decide)
  generalize (x &&& 7) = y at *
  clear hx
  clear hB hK
  go_enter Try.func42, Try.ntmps42
  go_wp2
  go_end0
  exact ⟨rfl, (by rw [← (set_fileC m K _).2.2.2.2.2.2.2.1]; exact HB.out.set 8 _), (Upon.refl _ _).set 8 _⟩
set_option maxHeartbeats 1000000 in
theorem wr_262 (m : Int) (K : Nat → Nat) (x b : Nat) (hK : Ok K) (hx : x < 18446744073709551616) (w : World) (hB : Box 49 w b (fileC m K)) : Calls Try.prog 42 #[.pointer (some ⟨b, 0, none⟩), .int .i64 262, .int .u64 (x : Int)] w fun e w' => e = .returned (.tuple #[]) ∧ Box 49 w' b (fileC m (upd K 13 (x &&& 7))) ∧ Upon b w w' := by
  have HB : Hid (Box 49 w b (fileC m K)) := hB
  have HK : Hid (Ok K) := hK
  have c13 : w.cell? ⟨b, 14, none⟩ = some (.int .u64 (K 13 : Nat)) := hB.cell 14 _ rfl
  have f13 := hB.frozen 14
  have hv : bits .and .u64 (x : Int) 7 = ((x &&& 7 : Nat) : Int) := bits_and_u64_nat x 7 hx (by decide)
  generalize (x &&& 7) = y at *
  clear hx
  clear hB hK
  go_enter Try.func42, Try.ntmps42
  go_wp2
  go_end0
  exact ⟨rfl, (by rw [← (set_fileC m K _).2.2.2.2.2.2.2.2.2.2.2.2.2.1]; exact HB.out.set 14 _), (Upon.refl _ _).set 14 _⟩
set_option maxHeartbeats 1000000 in
theorem wr_832 (m : Int) (K : Nat → Nat) (x b : Nat) (hK : Ok K) (hx : x < 18446744073709551616) (w : World) (hB : Box 49 w b (fileC m K)) : Calls Try.prog 42 #[.pointer (some ⟨b, 0, none⟩), .int .i64 832, .int .u64 (x : Int)] w fun e w' => e = .returned (.tuple #[]) ∧ Box 49 w' b (fileC m (upd K 8 (x))) ∧ Upon b w w' := by
  have HB : Hid (Box 49 w b (fileC m K)) := hB
  have HK : Hid (Ok K) := hK
  have c8 : w.cell? ⟨b, 9, none⟩ = some (.int .u64 (K 8 : Nat)) := hB.cell 9 _ rfl
  have f8 := hB.frozen 9
  clear hx
  clear hB hK
  go_enter Try.func42, Try.ntmps42
  go_wp2
  go_end0
  exact ⟨rfl, (by rw [← (set_fileC m K _).2.2.2.2.2.2.2.2.1]; exact HB.out.set 9 _), (Upon.refl _ _).set 9 _⟩
set_option maxHeartbeats 1000000 in
theorem wr_320 (m : Int) (K : Nat → Nat) (x b : Nat) (hK : Ok K) (hx : x < 18446744073709551616) (w : World) (hB : Box 49 w b (fileC m K)) : Calls Try.prog 42 #[.pointer (some ⟨b, 0, none⟩), .int .i64 320, .int .u64 (x : Int)] w fun e w' => e = .returned (.tuple #[]) ∧ Box 49 w' b (fileC m (upd K 14 (x))) ∧ Upon b w w' := by
  have HB : Hid (Box 49 w b (fileC m K)) := hB
  have HK : Hid (Ok K) := hK
  have c14 : w.cell? ⟨b, 15, none⟩ = some (.int .u64 (K 14 : Nat)) := hB.cell 15 _ rfl
  have f14 := hB.frozen 15
  clear hx
  clear hB hK
  go_enter Try.func42, Try.ntmps42
  go_wp2
  go_end0
  exact ⟨rfl, (by rw [← (set_fileC m K _).2.2.2.2.2.2.2.2.2.2.2.2.2.2.1]; exact HB.out.set 15 _), (Upon.refl _ _).set 15 _⟩
set_option maxHeartbeats 1000000 in
theorem wr_834 (m : Int) (K : Nat → Nat) (x b : Nat) (hK : Ok K) (hx : x < 18446744073709551616) (w : World) (hB : Box 49 w b (fileC m K)) : Calls Try.prog 42 #[.pointer (some ⟨b, 0, none⟩), .int .i64 834, .int .u64 (x : Int)] w fun e w' => e = .returned (.tuple #[]) ∧ Box 49 w' b (fileC m (upd K 10 (x))) ∧ Upon b w w' := by
  have HB : Hid (Box 49 w b (fileC m K)) := hB
  have HK : Hid (Ok K) := hK
  have c10 : w.cell? ⟨b, 11, none⟩ = some (.int .u64 (K 10 : Nat)) := hB.cell 11 _ rfl
  have f10 := hB.frozen 11
  clear hx
  clear hB hK
  go_enter Try.func42, Try.ntmps42
  go_wp2
  go_end0
  exact ⟨rfl, (by rw [← (set_fileC m K _).2.2.2.2.2.2.2.2.2.2.1]; exact HB.out.set 11 _), (Upon.refl _ _).set 11 _⟩
set_option maxHeartbeats 1000000 in
theorem wr_322 (m : Int) (K : Nat → Nat) (x b : Nat) (hK : Ok K) (hx : x < 18446744073709551616) (w : World) (hB : Box 49 w b (fileC m K)) : Calls Try.prog 42 #[.pointer (some ⟨b, 0, none⟩), .int .i64 322, .int .u64 (x : Int)] w fun e w' => e = .returned (.tuple #[]) ∧ Box 49 w' b (fileC m (upd K 16 (x))) ∧ Upon b w w' := by
  have HB : Hid (Box 49 w b (fileC m K)) := hB
  have HK : Hid (Ok K) := hK
  have c16 : w.cell? ⟨b, 17, none⟩ = some (.int .u64 (K 16 : Nat)) := hB.cell 17 _ rfl
  have f16 := hB.frozen 17
  clear hx
  clear hB hK
  go_enter Try.func42, Try.ntmps42
  go_wp2
  go_end0
  exact ⟨rfl, (by rw [← (set_fileC m K _).2.2.2.2.2.2.2.2.2.2.2.2.2.2.2.2.1]; exact HB.out.set 17 _), (Upon.refl _ _).set 17 _⟩
set_option maxHeartbeats 1000000 in
theorem wr_835 (m : Int) (K : Nat → Nat) (x b : Nat) (hK : Ok K) (hx : x < 18446744073709551616) (w : World) (hB : Box 49 w b (fileC m K)) : Calls Try.prog 42 #[.pointer (some ⟨b, 0, none⟩), .int .i64 835, .int .u64 (x : Int)] w fun e w' => e = .returned (.tuple #[]) ∧ Box 49 w' b (fileC m (upd K 11 (x))) ∧ Upon b w w' := by
  have HB : Hid (Box 49 w b (fileC m K)) := hB
  have HK : Hid (Ok K) := hK
  have c11 : w.cell? ⟨b, 12, none⟩ = some (.int .u64 (K 11 : Nat)) := hB.cell 12 _ rfl
  have f11 := hB.frozen 12
  clear hx
  clear hB hK
  go_enter Try.func42, Try.ntmps42
  go_wp2
  go_end0
  exact ⟨rfl, (by rw [← (set_fileC m K _).2.2.2.2.2.2.2.2.2.2.2.1]; exact HB.out.set 12 _), (Upon.refl _ _).set 12 _⟩
set_option maxHeartbeats 1000000 in
theorem wr_323 (m : Int) (K : Nat → Nat) (x b : Nat) (hK : Ok K) (hx : x < 18446744073709551616) (w : World) (hB : Box 49 w b (fileC m K)) : Calls Try.prog 42 #[.pointer (some ⟨b, 0, none⟩), .int .i64 323, .int .u64 (x : Int)] w fun e w' => e = .returned (.tuple #[]) ∧ Box 49 w' b (fileC m (upd K 17 (x))) ∧ Upon b w w' := by
  have HB : Hid (Box 49 w b (fileC m K)) := hB
  have HK : Hid (Ok K) := hK
  have c17 : w.cell? ⟨b, 18, none⟩ = some (.int .u64 (K 17 : Nat)) := hB.cell 18 _ rfl
  have f17 := hB.frozen 18
  clear hx
  clear hB hK
  go_enter Try.func42, Try.ntmps42
  go_wp2
  go_end0
  exact ⟨rfl, (by rw [← (set_fileC m K _).2.2.2.2.2.2.2.2.2.2.2.2.2.2.2.2.2.1]; exact HB.out.set 18 _), (Upon.refl _ _).set 18 _⟩
set_option maxHeartbeats 1000000 in
theorem wr_833 (m : Int) (K : Nat → Nat) (x b : Nat) (hK : Ok K) (hx : x < 18446744073709551616) (w : World) (hB : Box 49 w b (fileC m K)) : Calls Try.prog 42 #[.pointer (some ⟨b, 0, none⟩), .int .i64 833, .int .u64 (x : Int)] w fun e w' => e = .returned (.tuple #[]) ∧ Box 49 w' b (fileC m (upd K 9 (x &&& 18446744073709551612))) ∧ Upon b w w' := by
  have HB : Hid (Box 49 w b (fileC m K)) := hB
  have HK : Hid (Ok K) := hK
  have c9 : w.cell? ⟨b, 10, none⟩ = some (.int .u64 (K 9 : Nat)) := hB.cell 10 _ rfl
  have f9 := hB.frozen 10
  have hv : bits .andNot .u64 (x : Int) 3 = ((x &&& 18446744073709551612 : Nat) : Int) := u64_andNot_nat x 3 hx (by decide)
  generalize (x &&& 18446744073709551612) = y at *
  clear hx
  clear hB hK
  go_enter Try.func42, Try.ntmps42
  go_wp2
  go_end0
  exact ⟨rfl, (by rw [← (set_fileC m K _).2.2.2.2.2.2.2.2.2.1]; exact HB.out.set 10 _), (Upon.refl _ _).set 10 _⟩
set_option maxHeartbeats 1000000 in
theorem wr_321 (m : Int) (K : Nat → Nat) (x b : Nat) (hK : Ok K) (hx : x < 18446744073709551616) (w : World) (hB : Box 49 w b (fileC m K)) : Calls Try.prog 42 #[.pointer (some ⟨b, 0, none⟩), .int .i64 321, .int .u64 (x : Int)] w fun e w' => e = .returned (.tuple #[]) ∧ Box 49 w' b (fileC m (upd K 15 (x &&& 18446744073709551612))) ∧ Upon b w w' := by
  have HB : Hid (Box 49 w b (fileC m K)) := hB
  have HK : Hid (Ok K) := hK
  have c15 : w.cell? ⟨b, 16, none⟩ = some (.int .u64 (K 15 : Nat)) := hB.cell 16 _ rfl
  have f15 := hB.frozen 16
  have hv : bits .andNot .u64 (x : Int) 3 = ((x &&& 18446744073709551612 : Nat) : Int) := u64_andNot_nat x 3 hx (by decide)
  generalize (x &&& 18446744073709551612) = y at *
  clear hx
  clear hB hK
  go_enter Try.func42, Try.ntmps42
  go_wp2
  go_end0
  exact ⟨rfl, (by rw [← (set_fileC m K _).2.2.2.2.2.2.2.2.2.2.2.2.2.2.2.1]; exact HB.out.set 16 _), (Upon.refl _ _).set 16 _⟩
set_option maxHeartbeats 1000000 in
theorem wr_384 (m : Int) (K : Nat → Nat) (x b : Nat) (hK : Ok K) (hx : x < 18446744073709551616) (w : World) (hB : Box 49 w b (fileC m K)) : Calls Try.prog 42 #[.pointer (some ⟨b, 0, none⟩), .int .i64 384, .int .u64 (x : Int)] w fun e w' => e = .returned (.tuple #[]) ∧ Box 49 w' b (fileC m (upd K 18 (tabN (K 18) x))) ∧ Upon b w w' := by
  have HB : Hid (Box 49 w b (fileC m K)) := hB
  have HK : Hid (Ok K) := hK
  have c18 : w.cell? ⟨b, 19, none⟩ = some (.int .u64 (K 18 : Nat)) := hB.cell 19 _ rfl
  have f18 := hB.frozen 19
  have hc : ∀ V, Calls Try.prog 80 #[.int .u64 (K 18 : Nat), .int .u64 (x : Int)] V fun e w' => e = .returned (.int .u64 (tabN (K 18) x : Nat)) ∧ Below V.heap.size V w' := fun V => tab_any (K 18) x hx V
  generalize (tabN (K 18) x) = y at *
  clear hx hB hK
  go_enter Try.func42, Try.ntmps42
  go_wp2_with fail
  refine (hc _).mono ?_
  rintro e w1 ⟨rfl, hb1⟩
  have X1 : Hid (Below w.heap.size w w1) := hb1
  have d18 := (HB.out.step X1.out).cell 19 _ rfl
  have g18 := (HB.out.step X1.out).frozen 19
  clear hb1
  go_wp2_with fail
  go_end0
  exact ⟨rfl, (by rw [← (set_fileC m K _).2.2.2.2.2.2.2.2.2.2.2.2.2.2.2.2.2.2.1]; exact (HB.out.step X1.out).set 19 _), (Upon.of_below X1.out).set 19 _⟩
set_option maxHeartbeats 1000000 in
theorem wr_2816 (m : Int) (K : Nat → Nat) (x b : Nat) (hK : Ok K) (hx : x < 18446744073709551616) (w : World) (hB : Box 49 w b (fileC m K)) : Calls Try.prog 42 #[.pointer (some ⟨b, 0, none⟩), .int .i64 2816, .int .u64 (x : Int)] w fun e w' => e = .returned (.tuple #[]) ∧ Box 49 w' b (fileC m (upd K 19 (x))) ∧ Upon b w w' := by
  have HB : Hid (Box 49 w b (fileC m K)) := hB
  have HK : Hid (Ok K) := hK
  have c19 : w.cell? ⟨b, 20, none⟩ = some (.int .u64 (K 19 : Nat)) := hB.cell 20 _ rfl
  have f19 := hB.frozen 20
  clear hx
  clear hB hK
  go_enter Try.func42, Try.ntmps42
  go_wp2
  go_end0
  exact ⟨rfl, (by rw [← (set_fileC m K _).2.2.2.2.2.2.2.2.2.2.2.2.2.2.2.2.2.2.2.1]; exact HB.out.set 20 _), (Upon.refl _ _).set 20 _⟩
set_option maxHeartbeats 1000000 in
theorem wr_2818 (m : Int) (K : Nat → Nat) (x b : Nat) (hK : Ok K) (hx : x < 18446744073709551616) (w : World) (hB : Box 49 w b (fileC m K)) : Calls Try.prog 42 #[.pointer (some ⟨b, 0, none⟩), .int .i64 2818, .int .u64 (x : Int)] w fun e w' => e = .returned (.tuple #[]) ∧ Box 49 w' b (fileC m (upd K 20 (x))) ∧ Upon b w w' := by
  have HB : Hid (Box 49 w b (fileC m K)) := hB
  have HK : Hid (Ok K) := hK
  have c20 : w.cell? ⟨b, 21, none⟩ = some (.int .u64 (K 20 : Nat)) := hB.cell 21 _ rfl
  have f20 := hB.frozen 21
  clear hx
  clear hB hK
  go_enter Try.func42, Try.ntmps42
  go_wp2
  go_end0
  exact ⟨rfl, (by rw [← (set_fileC m K _).2.2.2.2.2.2.2.2.2.2.2.2.2.2.2.2.2.2.2.2.1]; exact HB.out.set 21 _), (Upon.refl _ _).set 21 _⟩
/-- what is kept behind a write -/
def writeK (K : Nat → Nat) (n : Int) (x : Nat) : Nat → Nat := if n = 768 then upd K 0 (mixN (K 0) x (smask x)) else if n = 256 then upd K 0 (mixN (K 0) x 786722) else if n = 770 then upd K 3 (x &&& 46079) else if n = 771 then upd K 4 (x &&& 546) else if n = 772 then upd K 5 (x &&& 2730) else if n = 260 then upd K 5 (mixN (K 5) x (K 4)) else if n = 836 then upd K 1 (x &&& 546) else if n = 324 then upd K 1 (mixN (K 1) x (K 4 &&& 2)) else if n = 773 then upd K 6 (vecN (K 6) x) else if n = 261 then upd K 12 (vecN (K 12) x) else if n = 774 then upd K 7 (x &&& 7) else if n = 262 then upd K 13 (x &&& 7) else if n = 832 then upd K 8 (x) else if n = 320 then upd K 14 (x) else if n = 834 then upd K 10 (x) else if n = 322 then upd K 16 (x) else if n = 835 then upd K 11 (x) else if n = 323 then upd K 17 (x) else if n = 833 then upd K 9 (x &&& 18446744073709551612) else if n = 321 then upd K 15 (x &&& 18446744073709551612) else if n = 384 then upd K 18 (tabN (K 18) x) else if n = 2816 then upd K 19 (x) else if n = 2818 then upd K 20 (x) else K
set_option maxHeartbeats 1000000 in
theorem wr_none (n : Int) (x b : Nat) (w : World) (h768 : (n == 768) = false) (h256 : (n == 256) = false) (h770 : (n == 770) = false) (h771 : (n == 771) = false) (h772 : (n == 772) = false) (h260 : (n == 260) = false) (h836 : (n == 836) = false) (h324 : (n == 324) = false) (h773 : (n == 773) = false) (h261 : (n == 261) = false) (h774 : (n == 774) = false) (h262 : (n == 262) = false) (h832 : (n == 832) = false) (h320 : (n == 320) = false) (h834 : (n == 834) = false) (h322 : (n == 322) = false) (h835 : (n == 835) = false) (h323 : (n == 323) = false) (h833 : (n == 833) = false) (h321 : (n == 321) = false) (h384 : (n == 384) = false) (h2816 : (n == 2816) = false) (h2818 : (n == 2818) = false) : Calls Try.prog 42 #[.pointer (some ⟨b, 0, none⟩), .int .i64 n, .int .u64 (x : Int)] w fun e w' => e = .returned (.tuple #[]) ∧ w' = w := by
  go_enter Try.func42, Try.ntmps42
  go_wp2
  go_end0
  exact ⟨rfl, rfl⟩
theorem write_any (m : Int) (K : Nat → Nat) (n : Int) (x b : Nat) (hK : Ok K) (hx : x < 18446744073709551616) (w : World) (hB : Box 49 w b (fileC m K)) : Calls Try.prog 42 #[.pointer (some ⟨b, 0, none⟩), .int .i64 n, .int .u64 (x : Int)] w fun e w' => e = .returned (.tuple #[]) ∧ Box 49 w' b (fileC m (writeK K n x)) ∧ Upon b w w' := by
  unfold writeK
  by_cases h768 : n = 768
  · subst h768; rw [if_pos rfl]; exact wr_768 m K x b hK hx w hB
  rw [if_neg h768]
  by_cases h256 : n = 256
  · subst h256; rw [if_pos rfl]; exact wr_256 m K x b hK hx w hB
  rw [if_neg h256]
  by_cases h770 : n = 770
  · subst h770; rw [if_pos rfl]; exact wr_770 m K x b hK hx w hB
  rw [if_neg h770]
  by_cases h771 : n = 771
  · subst h771; rw [if_pos rfl]; exact wr_771 m K x b hK hx w hB
  rw [if_neg h771]
  by_cases h772 : n = 772
  · subst h772; rw [if_pos rfl]; exact wr_772 m K x b hK hx w hB
  rw [if_neg h772]
  by_cases h260 : n = 260
  · subst h260; rw [if_pos rfl]; exact wr_260 m K x b hK hx w hB
  rw [if_neg h260]
  by_cases h836 : n = 836
  · subst h836; rw [if_pos rfl]; exact wr_836 m K x b hK hx w hB
  rw [if_neg h836]
  by_cases h324 : n = 324
  · subst h324; rw [if_pos rfl]; exact wr_324 m K x b hK hx w hB
  rw [if_neg h324]
  by_cases h773 : n = 773
  · subst h773; rw [if_pos rfl]; exact wr_773 m K x b hK hx w hB
  rw [if_neg h773]
  by_cases h261 : n = 261
  · subst h261; rw [if_pos rfl]; exact wr_261 m K x b hK hx w hB
  rw [if_neg h261]
  by_cases h774 : n = 774
  · subst h774; rw [if_pos rfl]; exact wr_774 m K x b hK hx w hB
  rw [if_neg h774]
  by_cases h262 : n = 262
  · subst h262; rw [if_pos rfl]; exact wr_262 m K x b hK hx w hB
  rw [if_neg h262]
  by_cases h832 : n = 832
  · subst h832; rw [if_pos rfl]; exact wr_832 m K x b hK hx w hB
  rw [if_neg h832]
  by_cases h320 : n = 320
  · subst h320; rw [if_pos rfl]; exact wr_320 m K x b hK hx w hB
  rw [if_neg h320]
  by_cases h834 : n = 834
  · subst h834; rw [if_pos rfl]; exact wr_834 m K x b hK hx w hB
  rw [if_neg h834]
  by_cases h322 : n = 322
  · subst h322; rw [if_pos rfl]; exact wr_322 m K x b hK hx w hB
  rw [if_neg h322]
  by_cases h835 : n = 835
  · subst h835; rw [if_pos rfl]; exact wr_835 m K x b hK hx w hB
  rw [if_neg h835]
  by_cases h323 : n = 323
  · subst h323; rw [if_pos rfl]; exact wr_323 m K x b hK hx w hB
  rw [if_neg h323]
  by_cases h833 : n = 833
  · subst h833; rw [if_pos rfl]; exact wr_833 m K x b hK hx w hB
  rw [if_neg h833]
  by_cases h321 : n = 321
  · subst h321; rw [if_pos rfl]; exact wr_321 m K x b hK hx w hB
  rw [if_neg h321]
  by_cases h384 : n = 384
  · subst h384; rw [if_pos rfl]; exact wr_384 m K x b hK hx w hB
  rw [if_neg h384]
  by_cases h2816 : n = 2816
  · subst h2816; rw [if_pos rfl]; exact wr_2816 m K x b hK hx w hB
  rw [if_neg h2816]
  by_cases h2818 : n = 2818
  · subst h2818; rw [if_pos rfl]; exact wr_2818 m K x b hK hx w hB
  rw [if_neg h2818]
  refine (wr_none n x b w (beq_eq_false_iff_ne.2 h768) (beq_eq_false_iff_ne.2 h256) (beq_eq_false_iff_ne.2 h770) (beq_eq_false_iff_ne.2 h771) (beq_eq_false_iff_ne.2 h772) (beq_eq_false_iff_ne.2 h260) (beq_eq_false_iff_ne.2 h836) (beq_eq_false_iff_ne.2 h324) (beq_eq_false_iff_ne.2 h773) (beq_eq_false_iff_ne.2 h261) (beq_eq_false_iff_ne.2 h774) (beq_eq_false_iff_ne.2 h262) (beq_eq_false_iff_ne.2 h832) (beq_eq_false_iff_ne.2 h320) (beq_eq_false_iff_ne.2 h834) (beq_eq_false_iff_ne.2 h322) (beq_eq_false_iff_ne.2 h835) (beq_eq_false_iff_ne.2 h323) (beq_eq_false_iff_ne.2 h833) (beq_eq_false_iff_ne.2 h321) (beq_eq_false_iff_ne.2 h384) (beq_eq_false_iff_ne.2 h2816) (beq_eq_false_iff_ne.2 h2818)).mono ?_
  rintro e w' ⟨rfl, hw⟩
  rw [hw]
  exact ⟨rfl, hB, Upon.refl _ _⟩
theorem smask_le (x : Nat) : smask x < 18446744073709551616 := smask_lt x
theorem writeK_ok (K : Nat → Nat) (n : Int) (x : Nat) (hK : Ok K) (hx : x < 18446744073709551616) : Ok (writeK K n x) := by
  unfold writeK
  by_cases h768 : n = 768
  · rw [if_pos h768]; exact hK.upd _ _ (mixN_lt _ _ _ (hK _) hx)
  rw [if_neg h768]
  by_cases h256 : n = 256
  · rw [if_pos h256]; exact hK.upd _ _ (mixN_lt _ _ _ (hK _) hx)
  rw [if_neg h256]
  by_cases h770 : n = 770
  · rw [if_pos h770]; exact hK.upd _ _ (and_lt _ _ hx)
  rw [if_neg h770]
  by_cases h771 : n = 771
  · rw [if_pos h771]; exact hK.upd _ _ (and_lt _ _ hx)
  rw [if_neg h771]
  by_cases h772 : n = 772
  · rw [if_pos h772]; exact hK.upd _ _ (and_lt _ _ hx)
  rw [if_neg h772]
  by_cases h260 : n = 260
  · rw [if_pos h260]; exact hK.upd _ _ (mixN_lt _ _ _ (hK _) hx)
  rw [if_neg h260]
  by_cases h836 : n = 836
  · rw [if_pos h836]; exact hK.upd _ _ (and_lt _ _ hx)
  rw [if_neg h836]
  by_cases h324 : n = 324
  · rw [if_pos h324]; exact hK.upd _ _ (mixN_lt _ _ _ (hK _) hx)
  rw [if_neg h324]
  by_cases h773 : n = 773
  · rw [if_pos h773]; exact hK.upd _ _ ((by unfold vecN; split; exact hK _; exact hx))
  rw [if_neg h773]
  by_cases h261 : n = 261
  · rw [if_pos h261]; exact hK.upd _ _ ((by unfold vecN; split; exact hK _; exact hx))
  rw [if_neg h261]
  by_cases h774 : n = 774
  · rw [if_pos h774]; exact hK.upd _ _ (and_lt _ _ hx)
  rw [if_neg h774]
  by_cases h262 : n = 262
  · rw [if_pos h262]; exact hK.upd _ _ (and_lt _ _ hx)
  rw [if_neg h262]
  by_cases h832 : n = 832
  · rw [if_pos h832]; exact hK.upd _ _ (hx)
  rw [if_neg h832]
  by_cases h320 : n = 320
  · rw [if_pos h320]; exact hK.upd _ _ (hx)
  rw [if_neg h320]
  by_cases h834 : n = 834
  · rw [if_pos h834]; exact hK.upd _ _ (hx)
  rw [if_neg h834]
  by_cases h322 : n = 322
  · rw [if_pos h322]; exact hK.upd _ _ (hx)
  rw [if_neg h322]
  by_cases h835 : n = 835
  · rw [if_pos h835]; exact hK.upd _ _ (hx)
  rw [if_neg h835]
  by_cases h323 : n = 323
  · rw [if_pos h323]; exact hK.upd _ _ (hx)
  rw [if_neg h323]
  by_cases h833 : n = 833
  · rw [if_pos h833]; exact hK.upd _ _ (and_lt _ _ hx)
  rw [if_neg h833]
  by_cases h321 : n = 321
  · rw [if_pos h321]; exact hK.upd _ _ (and_lt _ _ hx)
  rw [if_neg h321]
  by_cases h384 : n = 384
  · rw [if_pos h384]; exact hK.upd _ _ ((by unfold tabN; split; exact hx; exact hK _))
  rw [if_neg h384]
  by_cases h2816 : n = 2816
  · rw [if_pos h2816]; exact hK.upd _ _ (hx)
  rw [if_neg h2816]
  by_cases h2818 : n = 2818
  · rw [if_pos h2818]; exact hK.upd _ _ (hx)
  rw [if_neg h2818]
  exact hK
end Go.Proofs.Ytalgidnmmghejaa.E
