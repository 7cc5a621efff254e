/- The program's calls Pending, Read, Raw, Hold and Is of layer 8. -/
import Derived.Test.YtebdlefdkadhnaaDoorFl
namespace Go.Proofs.YtebdlefdkadhnaaDoor
open Go.RowKit
set_option linter.unusedVariables false
set_option linter.unusedSimpArgs false
set_option maxRecDepth 100000
theorem below_drew1 (w : World) : Below w.heap.size w w.drew := Below.drew (Below.refl _ _)
theorem pending_any (m : Int) (K : Nat → Nat) (b : Nat) (hK : Ok K) (w : World) (hB : Box 29 w b (fileC m K)) : Calls Tryd.prog 16 #[.pointer (some ⟨b, 0, none⟩)] w fun e w' => e = .returned (.int .u64 (K 1 ||| K 2 : Nat)) ∧ Below w.heap.size w w' := by
  have c1 : w.cell? ⟨b, 5, none⟩ = some (.int .u64 (K 1 : Nat)) := hB.cell 5 _ rfl
  have c2 : w.cell? ⟨b, 6, none⟩ = some (.int .u64 (K 2 : Nat)) := hB.cell 6 _ rfl
  have hv : bits .or .u64 ((K 1 : Nat) : Int) ((K 2 : Nat) : Int) = ((K 1 ||| K 2 : Nat) : Int) := bits_or_u64_nat _ _ (hK _) (hK _)
  generalize K 1 ||| K 2 = y at *
  clear hB hK
  go_enter Tryd.func16, Tryd.ntmps16
  go_wp2_with fail
  go_quiet (fail)
  go_wp2_with fail
  go_ret
  exact ⟨rfl, below_drewN (Below.refl _ _) nq⟩
theorem rd_768 (m : Int) (K : Nat → Nat) (b : Nat) (hK : Ok K) (w : World) (hB : Box 29 w b (fileC m K)) : Calls Tryd.prog 12 #[.pointer (some ⟨b, 0, none⟩), .int .i64 768] w fun e w' => e = .returned (.int .u64 (K 0 ||| 42949672960 : Nat)) ∧ Below w.heap.size w w' := by
  have c : w.cell? ⟨b, 1, none⟩ = some (.int .u64 (K 0 : Nat)) := hB.cell 1 _ rfl
  have hv : bits .or .u64 ((K 0 : Nat) : Int) 42949672960 = ((K 0 ||| 42949672960 : Nat) : Int) := bits_or_u64_nat _ 42949672960 (hK _) (by decide)
  have HV : Hid _ := hv
  clear hv hB hK
  go_enter Tryd.func12, Tryd.ntmps12
  go_wp2
  go_ret
  exact ⟨by rw [← HV.out]; rfl, Below.refl _ _⟩
theorem rd_256 (m : Int) (K : Nat → Nat) (b : Nat) (hK : Ok K) (w : World) (hB : Box 29 w b (fileC m K)) : Calls Tryd.prog 12 #[.pointer (some ⟨b, 0, none⟩), .int .i64 256] w fun e w' => e = .returned (.int .u64 ((K 0 &&& 786722) ||| 8589934592 : Nat)) ∧ Below w.heap.size w w' := by
  have c : w.cell? ⟨b, 1, none⟩ = some (.int .u64 (K 0 : Nat)) := hB.cell 1 _ rfl
  have hv : bits .or .u64 (bits .and .u64 ((K 0 : Nat) : Int) 786722) 8589934592 = (((K 0 &&& 786722) ||| 8589934592 : Nat) : Int) := by rw [show bits .and .u64 ((K 0 : Nat) : Int) 786722 = ((K 0 &&& 786722 : Nat) : Int) from bits_and_u64_nat _ 786722 (hK _) (by decide)]; exact bits_or_u64_nat _ 8589934592 (and_lt _ _ (hK _)) (by decide)
  have HV : Hid _ := hv
  clear hv hB hK
  go_enter Tryd.func12, Tryd.ntmps12
  go_wp2
  go_ret
  exact ⟨by rw [← HV.out]; rfl, Below.refl _ _⟩
theorem rd_769 (m : Int) (K : Nat → Nat) (b : Nat) (hK : Ok K) (w : World) (hB : Box 29 w b (fileC m K)) : Calls Tryd.prog 12 #[.pointer (some ⟨b, 0, none⟩), .int .i64 769] w fun e w' => e = .returned (.int .u64 (9223372036856090881 : Nat)) ∧ Below w.heap.size w w' := by
  clear hB hK
  go_enter Tryd.func12, Tryd.ntmps12
  go_wp2
  go_ret
  exact ⟨rfl, Below.refl _ _⟩
theorem rd_770 (m : Int) (K : Nat → Nat) (b : Nat) (hK : Ok K) (w : World) (hB : Box 29 w b (fileC m K)) : Calls Tryd.prog 12 #[.pointer (some ⟨b, 0, none⟩), .int .i64 770] w fun e w' => e = .returned (.int .u64 (K 3 : Nat)) ∧ Below w.heap.size w w' := by
  have c : w.cell? ⟨b, 2, none⟩ = some (.int .u64 (K 3 : Nat)) := hB.cell 2 _ rfl
  clear hB hK
  go_enter Tryd.func12, Tryd.ntmps12
  go_wp2
  go_ret
  exact ⟨rfl, Below.refl _ _⟩
theorem rd_771 (m : Int) (K : Nat → Nat) (b : Nat) (hK : Ok K) (w : World) (hB : Box 29 w b (fileC m K)) : Calls Tryd.prog 12 #[.pointer (some ⟨b, 0, none⟩), .int .i64 771] w fun e w' => e = .returned (.int .u64 (K 4 : Nat)) ∧ Below w.heap.size w w' := by
  have c : w.cell? ⟨b, 3, none⟩ = some (.int .u64 (K 4 : Nat)) := hB.cell 3 _ rfl
  clear hB hK
  go_enter Tryd.func12, Tryd.ntmps12
  go_wp2
  go_ret
  exact ⟨rfl, Below.refl _ _⟩
theorem rd_772 (m : Int) (K : Nat → Nat) (b : Nat) (hK : Ok K) (w : World) (hB : Box 29 w b (fileC m K)) : Calls Tryd.prog 12 #[.pointer (some ⟨b, 0, none⟩), .int .i64 772] w fun e w' => e = .returned (.int .u64 (K 5 : Nat)) ∧ Below w.heap.size w w' := by
  have c : w.cell? ⟨b, 4, none⟩ = some (.int .u64 (K 5 : Nat)) := hB.cell 4 _ rfl
  clear hB hK
  go_enter Tryd.func12, Tryd.ntmps12
  go_wp2
  go_ret
  exact ⟨rfl, Below.refl _ _⟩
theorem rd_260 (m : Int) (K : Nat → Nat) (b : Nat) (hK : Ok K) (w : World) (hB : Box 29 w b (fileC m K)) : Calls Tryd.prog 12 #[.pointer (some ⟨b, 0, none⟩), .int .i64 260] w fun e w' => e = .returned (.int .u64 (K 5 &&& K 4 : Nat)) ∧ Below w.heap.size w w' := by
  have c5 : w.cell? ⟨b, 4, none⟩ = some (.int .u64 (K 5 : Nat)) := hB.cell 4 _ rfl
  have c4 : w.cell? ⟨b, 3, none⟩ = some (.int .u64 (K 4 : Nat)) := hB.cell 3 _ rfl
  have hv : bits .and .u64 ((K 5 : Nat) : Int) ((K 4 : Nat) : Int) = ((K 5 &&& K 4 : Nat) : Int) := bits_and_u64_nat _ _ (hK _) (hK _)
  generalize K 5 &&& K 4 = y at *
  clear hB hK
  go_enter Tryd.func12, Tryd.ntmps12
  go_wp2_with fail
  go_quiet (fail)
  go_wp2_with fail
  go_ret
  exact ⟨rfl, below_drewN (Below.refl _ _) nq⟩
theorem rd_836 (m : Int) (K : Nat → Nat) (b : Nat) (hK : Ok K) (w : World) (hB : Box 29 w b (fileC m K)) : Calls Tryd.prog 12 #[.pointer (some ⟨b, 0, none⟩), .int .i64 836] w fun e w' => e = .returned (.int .u64 (K 1 ||| K 2 : Nat)) ∧ Below w.heap.size w w' := by
  have hp : ∀ V, Box 29 V b (fileC m K) → Calls Tryd.prog 16 #[.pointer (some ⟨b, 0, none⟩)] V fun e w' => e = .returned (.int .u64 (K 1 ||| K 2 : Nat)) ∧ Below V.heap.size V w' := fun V h => pending_any m K b hK V h
  have HB : Hid _ := hB
  generalize K 1 ||| K 2 = y at *
  clear hB hK
  go_enter Tryd.func12, Tryd.ntmps12
  go_wp2_with fail
  refine (hp _ HB.out).mono ?_
  rintro e w1 ⟨rfl, hb1⟩
  go_wp2_with fail
  go_ret
  exact ⟨rfl, hb1⟩
theorem rd_324 (m : Int) (K : Nat → Nat) (b : Nat) (hK : Ok K) (w : World) (hB : Box 29 w b (fileC m K)) : Calls Tryd.prog 12 #[.pointer (some ⟨b, 0, none⟩), .int .i64 324] w fun e w' => e = .returned (.int .u64 ((K 1 ||| K 2) &&& K 4 : Nat)) ∧ Below w.heap.size w w' := by
  have hp : ∀ V, Box 29 V b (fileC m K) → Calls Tryd.prog 16 #[.pointer (some ⟨b, 0, none⟩)] V fun e w' => e = .returned (.int .u64 (K 1 ||| K 2 : Nat)) ∧ Below V.heap.size V w' := fun V h => pending_any m K b hK V h
  have HB : Hid (Box 29 w b (fileC m K)) := hB
  have HBd : Hid (Box 29 w.drew b (fileC m K)) := hB.step (below_drew1 w)
  have c4 : w.cell? ⟨b, 3, none⟩ = some (.int .u64 (K 4 : Nat)) := hB.cell 3 _ rfl
  have hv : bits .and .u64 ((K 1 ||| K 2 : Nat) : Int) ((K 4 : Nat) : Int) = (((K 1 ||| K 2) &&& K 4 : Nat) : Int) := bits_and_u64_nat _ _ (or_lt _ _ (hK _) (hK _)) (hK _)
  generalize (K 1 ||| K 2) &&& K 4 = z at *
  generalize K 1 ||| K 2 = y at *
  clear hB hK
  go_enter Tryd.func12, Tryd.ntmps12
  go_wp2_with fail
  go_region_held3 (fun V => V.cell? ⟨b, 3, none⟩ = some (.int .u64 (K 4 : Nat))) (go_keep) (first | (go_at_call 16; (with_reducible refine Calls.mono (hp _ HBd.out) ?_); rintro e w1 ⟨rfl, hb1⟩; have X1 : Hid (Below w.heap.size w w1) := (below_drew1 w).trans hb1; have d4 : w1.cell? ⟨b, 3, none⟩ = some (.int .u64 (K 4 : Nat)) := (HB.out.step X1.out).cell 3 _ rfl; clear hb1))
  go_wp2_with fail
  go_ret
  exact ⟨rfl, X1.out⟩
theorem rd_773 (m : Int) (K : Nat → Nat) (b : Nat) (hK : Ok K) (w : World) (hB : Box 29 w b (fileC m K)) : Calls Tryd.prog 12 #[.pointer (some ⟨b, 0, none⟩), .int .i64 773] w fun e w' => e = .returned (.int .u64 (K 6 : Nat)) ∧ Below w.heap.size w w' := by
  have c : w.cell? ⟨b, 7, none⟩ = some (.int .u64 (K 6 : Nat)) := hB.cell 7 _ rfl
  clear hB hK
  go_enter Tryd.func12, Tryd.ntmps12
  go_wp2
  go_ret
  exact ⟨rfl, Below.refl _ _⟩
theorem rd_261 (m : Int) (K : Nat → Nat) (b : Nat) (hK : Ok K) (w : World) (hB : Box 29 w b (fileC m K)) : Calls Tryd.prog 12 #[.pointer (some ⟨b, 0, none⟩), .int .i64 261] w fun e w' => e = .returned (.int .u64 (K 12 : Nat)) ∧ Below w.heap.size w w' := by
  have c : w.cell? ⟨b, 13, none⟩ = some (.int .u64 (K 12 : Nat)) := hB.cell 13 _ rfl
  clear hB hK
  go_enter Tryd.func12, Tryd.ntmps12
  go_wp2
  go_ret
  exact ⟨rfl, Below.refl _ _⟩
theorem rd_774 (m : Int) (K : Nat → Nat) (b : Nat) (hK : Ok K) (w : World) (hB : Box 29 w b (fileC m K)) : Calls Tryd.prog 12 #[.pointer (some ⟨b, 0, none⟩), .int .i64 774] w fun e w' => e = .returned (.int .u64 (K 7 : Nat)) ∧ Below w.heap.size w w' := by
  have c : w.cell? ⟨b, 8, none⟩ = some (.int .u64 (K 7 : Nat)) := hB.cell 8 _ rfl
  clear hB hK
  go_enter Tryd.func12, Tryd.ntmps12
  go_wp2
  go_ret
  exact ⟨rfl, Below.refl _ _⟩
theorem rd_262 (m : Int) (K : Nat → Nat) (b : Nat) (hK : Ok K) (w : World) (hB : Box 29 w b (fileC m K)) : Calls Tryd.prog 12 #[.pointer (some ⟨b, 0, none⟩), .int .i64 262] w fun e w' => e = .returned (.int .u64 (K 13 : Nat)) ∧ Below w.heap.size w w' := by
  have c : w.cell? ⟨b, 14, none⟩ = some (.int .u64 (K 13 : Nat)) := hB.cell 14 _ rfl
  clear hB hK
  go_enter Tryd.func12, Tryd.ntmps12
  go_wp2
  go_ret
  exact ⟨rfl, Below.refl _ _⟩
theorem rd_832 (m : Int) (K : Nat → Nat) (b : Nat) (hK : Ok K) (w : World) (hB : Box 29 w b (fileC m K)) : Calls Tryd.prog 12 #[.pointer (some ⟨b, 0, none⟩), .int .i64 832] w fun e w' => e = .returned (.int .u64 (K 8 : Nat)) ∧ Below w.heap.size w w' := by
  have c : w.cell? ⟨b, 9, none⟩ = some (.int .u64 (K 8 : Nat)) := hB.cell 9 _ rfl
  clear hB hK
  go_enter Tryd.func12, Tryd.ntmps12
  go_wp2
  go_ret
  exact ⟨rfl, Below.refl _ _⟩
theorem rd_320 (m : Int) (K : Nat → Nat) (b : Nat) (hK : Ok K) (w : World) (hB : Box 29 w b (fileC m K)) : Calls Tryd.prog 12 #[.pointer (some ⟨b, 0, none⟩), .int .i64 320] w fun e w' => e = .returned (.int .u64 (K 14 : Nat)) ∧ Below w.heap.size w w' := by
  have c : w.cell? ⟨b, 15, none⟩ = some (.int .u64 (K 14 : Nat)) := hB.cell 15 _ rfl
  clear hB hK
  go_enter Tryd.func12, Tryd.ntmps12
  go_wp2
  go_ret
  exact ⟨rfl, Below.refl _ _⟩
theorem rd_834 (m : Int) (K : Nat → Nat) (b : Nat) (hK : Ok K) (w : World) (hB : Box 29 w b (fileC m K)) : Calls Tryd.prog 12 #[.pointer (some ⟨b, 0, none⟩), .int .i64 834] w fun e w' => e = .returned (.int .u64 (K 10 : Nat)) ∧ Below w.heap.size w w' := by
  have c : w.cell? ⟨b, 11, none⟩ = some (.int .u64 (K 10 : Nat)) := hB.cell 11 _ rfl
  clear hB hK
  go_enter Tryd.func12, Tryd.ntmps12
  go_wp2
  go_ret
  exact ⟨rfl, Below.refl _ _⟩
theorem rd_322 (m : Int) (K : Nat → Nat) (b : Nat) (hK : Ok K) (w : World) (hB : Box 29 w b (fileC m K)) : Calls Tryd.prog 12 #[.pointer (some ⟨b, 0, none⟩), .int .i64 322] w fun e w' => e = .returned (.int .u64 (K 16 : Nat)) ∧ Below w.heap.size w w' := by
  have c : w.cell? ⟨b, 17, none⟩ = some (.int .u64 (K 16 : Nat)) := hB.cell 17 _ rfl
  clear hB hK
  go_enter Tryd.func12, Tryd.ntmps12
  go_wp2
  go_ret
  exact ⟨rfl, Below.refl _ _⟩
theorem rd_835 (m : Int) (K : Nat → Nat) (b : Nat) (hK : Ok K) (w : World) (hB : Box 29 w b (fileC m K)) : Calls Tryd.prog 12 #[.pointer (some ⟨b, 0, none⟩), .int .i64 835] w fun e w' => e = .returned (.int .u64 (K 11 : Nat)) ∧ Below w.heap.size w w' := by
  have c : w.cell? ⟨b, 12, none⟩ = some (.int .u64 (K 11 : Nat)) := hB.cell 12 _ rfl
  clear hB hK
  go_enter Tryd.func12, Tryd.ntmps12
  go_wp2
  go_ret
  exact ⟨rfl, Below.refl _ _⟩
theorem rd_323 (m : Int) (K : Nat → Nat) (b : Nat) (hK : Ok K) (w : World) (hB : Box 29 w b (fileC m K)) : Calls Tryd.prog 12 #[.pointer (some ⟨b, 0, none⟩), .int .i64 323] w fun e w' => e = .returned (.int .u64 (K 17 : Nat)) ∧ Below w.heap.size w w' := by
  have c : w.cell? ⟨b, 18, none⟩ = some (.int .u64 (K 17 : Nat)) := hB.cell 18 _ rfl
  clear hB hK
  go_enter Tryd.func12, Tryd.ntmps12
  go_wp2
  go_ret
  exact ⟨rfl, Below.refl _ _⟩
theorem rd_833 (m : Int) (K : Nat → Nat) (b : Nat) (hK : Ok K) (w : World) (hB : Box 29 w b (fileC m K)) : Calls Tryd.prog 12 #[.pointer (some ⟨b, 0, none⟩), .int .i64 833] w fun e w' => e = .returned (.int .u64 (K 9 : Nat)) ∧ Below w.heap.size w w' := by
  have c : w.cell? ⟨b, 10, none⟩ = some (.int .u64 (K 9 : Nat)) := hB.cell 10 _ rfl
  clear hB hK
  go_enter Tryd.func12, Tryd.ntmps12
  go_wp2
  go_ret
  exact ⟨rfl, Below.refl _ _⟩
theorem rd_321 (m : Int) (K : Nat → Nat) (b : Nat) (hK : Ok K) (w : World) (hB : Box 29 w b (fileC m K)) : Calls Tryd.prog 12 #[.pointer (some ⟨b, 0, none⟩), .int .i64 321] w fun e w' => e = .returned (.int .u64 (K 15 : Nat)) ∧ Below w.heap.size w w' := by
  have c : w.cell? ⟨b, 16, none⟩ = some (.int .u64 (K 15 : Nat)) := hB.cell 16 _ rfl
  clear hB hK
  go_enter Tryd.func12, Tryd.ntmps12
  go_wp2
  go_ret
  exact ⟨rfl, Below.refl _ _⟩
theorem rd_384 (m : Int) (K : Nat → Nat) (b : Nat) (hK : Ok K) (w : World) (hB : Box 29 w b (fileC m K)) : Calls Tryd.prog 12 #[.pointer (some ⟨b, 0, none⟩), .int .i64 384] w fun e w' => e = .returned (.int .u64 (K 18 : Nat)) ∧ Below w.heap.size w w' := by
  have c : w.cell? ⟨b, 19, none⟩ = some (.int .u64 (K 18 : Nat)) := hB.cell 19 _ rfl
  clear hB hK
  go_enter Tryd.func12, Tryd.ntmps12
  go_wp2
  go_ret
  exact ⟨rfl, Below.refl _ _⟩
theorem rd_2816 (m : Int) (K : Nat → Nat) (b : Nat) (hK : Ok K) (w : World) (hB : Box 29 w b (fileC m K)) : Calls Tryd.prog 12 #[.pointer (some ⟨b, 0, none⟩), .int .i64 2816] w fun e w' => e = .returned (.int .u64 (K 19 : Nat)) ∧ Below w.heap.size w w' := by
  have c : w.cell? ⟨b, 20, none⟩ = some (.int .u64 (K 19 : Nat)) := hB.cell 20 _ rfl
  clear hB hK
  go_enter Tryd.func12, Tryd.ntmps12
  go_wp2
  go_ret
  exact ⟨rfl, Below.refl _ _⟩
theorem rd_3072 (m : Int) (K : Nat → Nat) (b : Nat) (hK : Ok K) (w : World) (hB : Box 29 w b (fileC m K)) : Calls Tryd.prog 12 #[.pointer (some ⟨b, 0, none⟩), .int .i64 3072] w fun e w' => e = .returned (.int .u64 (K 19 : Nat)) ∧ Below w.heap.size w w' := by
  have c : w.cell? ⟨b, 20, none⟩ = some (.int .u64 (K 19 : Nat)) := hB.cell 20 _ rfl
  clear hB hK
  go_enter Tryd.func12, Tryd.ntmps12
  go_wp2
  go_ret
  exact ⟨rfl, Below.refl _ _⟩
theorem rd_2818 (m : Int) (K : Nat → Nat) (b : Nat) (hK : Ok K) (w : World) (hB : Box 29 w b (fileC m K)) : Calls Tryd.prog 12 #[.pointer (some ⟨b, 0, none⟩), .int .i64 2818] w fun e w' => e = .returned (.int .u64 (K 20 : Nat)) ∧ Below w.heap.size w w' := by
  have c : w.cell? ⟨b, 21, none⟩ = some (.int .u64 (K 20 : Nat)) := hB.cell 21 _ rfl
  clear hB hK
  go_enter Tryd.func12, Tryd.ntmps12
  go_wp2
  go_ret
  exact ⟨rfl, Below.refl _ _⟩
theorem rd_3074 (m : Int) (K : Nat → Nat) (b : Nat) (hK : Ok K) (w : World) (hB : Box 29 w b (fileC m K)) : Calls Tryd.prog 12 #[.pointer (some ⟨b, 0, none⟩), .int .i64 3074] w fun e w' => e = .returned (.int .u64 (K 20 : Nat)) ∧ Below w.heap.size w w' := by
  have c : w.cell? ⟨b, 21, none⟩ = some (.int .u64 (K 20 : Nat)) := hB.cell 21 _ rfl
  clear hB hK
  go_enter Tryd.func12, Tryd.ntmps12
  go_wp2
  go_ret
  exact ⟨rfl, Below.refl _ _⟩
theorem rd_3073 (m : Int) (K : Nat → Nat) (b : Nat) (hK : Ok K) (w : World) (hB : Box 29 w b (fileC m K)) : Calls Tryd.prog 12 #[.pointer (some ⟨b, 0, none⟩), .int .i64 3073] w fun e w' => e = .returned (.int .u64 (K 21 : Nat)) ∧ Below w.heap.size w w' := by
  have c : w.cell? ⟨b, 22, none⟩ = some (.int .u64 (K 21 : Nat)) := hB.cell 22 _ rfl
  clear hB hK
  go_enter Tryd.func12, Tryd.ntmps12
  go_wp2
  go_ret
  exact ⟨rfl, Below.refl _ _⟩
/-- what a register holds -/
def readN (K : Nat → Nat) (n : Int) : Nat := if n = 768 then K 0 ||| 42949672960 else if n = 256 then (K 0 &&& 786722) ||| 8589934592 else if n = 769 then 9223372036856090881 else if n = 770 then K 3 else if n = 771 then K 4 else if n = 772 then K 5 else if n = 260 then K 5 &&& K 4 else if n = 836 then K 1 ||| K 2 else if n = 324 then (K 1 ||| K 2) &&& K 4 else if n = 773 then K 6 else if n = 261 then K 12 else if n = 774 then K 7 else if n = 262 then K 13 else if n = 832 then K 8 else if n = 320 then K 14 else if n = 834 then K 10 else if n = 322 then K 16 else if n = 835 then K 11 else if n = 323 then K 17 else if n = 833 then K 9 else if n = 321 then K 15 else if n = 384 then K 18 else if n = 2816 then K 19 else if n = 3072 then K 19 else if n = 2818 then K 20 else if n = 3074 then K 20 else if n = 3073 then K 21 else 0
set_option maxHeartbeats 1000000 in
theorem rd_none (n : Int) (b : Nat) (w : World) (h768 : (n == 768) = false) (h256 : (n == 256) = false) (h769 : (n == 769) = false) (h770 : (n == 770) = false) (h771 : (n == 771) = false) (h772 : (n == 772) = false) (h260 : (n == 260) = false) (h836 : (n == 836) = false) (h324 : (n == 324) = false) (h773 : (n == 773) = false) (h261 : (n == 261) = false) (h774 : (n == 774) = false) (h262 : (n == 262) = false) (h832 : (n == 832) = false) (h320 : (n == 320) = false) (h834 : (n == 834) = false) (h322 : (n == 322) = false) (h835 : (n == 835) = false) (h323 : (n == 323) = false) (h833 : (n == 833) = false) (h321 : (n == 321) = false) (h384 : (n == 384) = false) (h2816 : (n == 2816) = false) (h3072 : (n == 3072) = false) (h2818 : (n == 2818) = false) (h3074 : (n == 3074) = false) (h3073 : (n == 3073) = false) : Calls Tryd.prog 12 #[.pointer (some ⟨b, 0, none⟩), .int .i64 n] w fun e w' => e = .returned (.int .u64 0) ∧ Below w.heap.size w w' := by
  go_enter Tryd.func12, Tryd.ntmps12
  go_wp2
  go_ret
  exact ⟨rfl, Below.refl _ _⟩
theorem read_any (m : Int) (K : Nat → Nat) (n : Int) (b : Nat) (hK : Ok K) (w : World) (hB : Box 29 w b (fileC m K)) : Calls Tryd.prog 12 #[.pointer (some ⟨b, 0, none⟩), .int .i64 n] w fun e w' => e = .returned (.int .u64 (readN K n : Nat)) ∧ Below w.heap.size w w' := by
  unfold readN
  by_cases h768 : n = 768
  · subst h768; rw [if_pos rfl]; exact rd_768 m K b hK w hB
  rw [if_neg h768]
  by_cases h256 : n = 256
  · subst h256; rw [if_pos rfl]; exact rd_256 m K b hK w hB
  rw [if_neg h256]
  by_cases h769 : n = 769
  · subst h769; rw [if_pos rfl]; exact rd_769 m K b hK w hB
  rw [if_neg h769]
  by_cases h770 : n = 770
  · subst h770; rw [if_pos rfl]; exact rd_770 m K b hK w hB
  rw [if_neg h770]
  by_cases h771 : n = 771
  · subst h771; rw [if_pos rfl]; exact rd_771 m K b hK w hB
  rw [if_neg h771]
  by_cases h772 : n = 772
  · subst h772; rw [if_pos rfl]; exact rd_772 m K b hK w hB
  rw [if_neg h772]
  by_cases h260 : n = 260
  · subst h260; rw [if_pos rfl]; exact rd_260 m K b hK w hB
  rw [if_neg h260]
  by_cases h836 : n = 836
  · subst h836; rw [if_pos rfl]; exact rd_836 m K b hK w hB
  rw [if_neg h836]
  by_cases h324 : n = 324
  · subst h324; rw [if_pos rfl]; exact rd_324 m K b hK w hB
  rw [if_neg h324]
  by_cases h773 : n = 773
  · subst h773; rw [if_pos rfl]; exact rd_773 m K b hK w hB
  rw [if_neg h773]
  by_cases h261 : n = 261
  · subst h261; rw [if_pos rfl]; exact rd_261 m K b hK w hB
  rw [if_neg h261]
  by_cases h774 : n = 774
  · subst h774; rw [if_pos rfl]; exact rd_774 m K b hK w hB
  rw [if_neg h774]
  by_cases h262 : n = 262
  · subst h262; rw [if_pos rfl]; exact rd_262 m K b hK w hB
  rw [if_neg h262]
  by_cases h832 : n = 832
  · subst h832; rw [if_pos rfl]; exact rd_832 m K b hK w hB
  rw [if_neg h832]
  by_cases h320 : n = 320
  · subst h320; rw [if_pos rfl]; exact rd_320 m K b hK w hB
  rw [if_neg h320]
  by_cases h834 : n = 834
  · subst h834; rw [if_pos rfl]; exact rd_834 m K b hK w hB
  rw [if_neg h834]
  by_cases h322 : n = 322
  · subst h322; rw [if_pos rfl]; exact rd_322 m K b hK w hB
  rw [if_neg h322]
  by_cases h835 : n = 835
  · subst h835; rw [if_pos rfl]; exact rd_835 m K b hK w hB
  rw [if_neg h835]
  by_cases h323 : n = 323
  · subst h323; rw [if_pos rfl]; exact rd_323 m K b hK w hB
  rw [if_neg h323]
  by_cases h833 : n = 833
  · subst h833; rw [if_pos rfl]; exact rd_833 m K b hK w hB
  rw [if_neg h833]
  by_cases h321 : n = 321
  · subst h321; rw [if_pos rfl]; exact rd_321 m K b hK w hB
  rw [if_neg h321]
  by_cases h384 : n = 384
  · subst h384; rw [if_pos rfl]; exact rd_384 m K b hK w hB
  rw [if_neg h384]
  by_cases h2816 : n = 2816
  · subst h2816; rw [if_pos rfl]; exact rd_2816 m K b hK w hB
  rw [if_neg h2816]
  by_cases h3072 : n = 3072
  · subst h3072; rw [if_pos rfl]; exact rd_3072 m K b hK w hB
  rw [if_neg h3072]
  by_cases h2818 : n = 2818
  · subst h2818; rw [if_pos rfl]; exact rd_2818 m K b hK w hB
  rw [if_neg h2818]
  by_cases h3074 : n = 3074
  · subst h3074; rw [if_pos rfl]; exact rd_3074 m K b hK w hB
  rw [if_neg h3074]
  by_cases h3073 : n = 3073
  · subst h3073; rw [if_pos rfl]; exact rd_3073 m K b hK w hB
  rw [if_neg h3073]
  exact rd_none n b w (beq_eq_false_iff_ne.2 h768) (beq_eq_false_iff_ne.2 h256) (beq_eq_false_iff_ne.2 h769) (beq_eq_false_iff_ne.2 h770) (beq_eq_false_iff_ne.2 h771) (beq_eq_false_iff_ne.2 h772) (beq_eq_false_iff_ne.2 h260) (beq_eq_false_iff_ne.2 h836) (beq_eq_false_iff_ne.2 h324) (beq_eq_false_iff_ne.2 h773) (beq_eq_false_iff_ne.2 h261) (beq_eq_false_iff_ne.2 h774) (beq_eq_false_iff_ne.2 h262) (beq_eq_false_iff_ne.2 h832) (beq_eq_false_iff_ne.2 h320) (beq_eq_false_iff_ne.2 h834) (beq_eq_false_iff_ne.2 h322) (beq_eq_false_iff_ne.2 h835) (beq_eq_false_iff_ne.2 h323) (beq_eq_false_iff_ne.2 h833) (beq_eq_false_iff_ne.2 h321) (beq_eq_false_iff_ne.2 h384) (beq_eq_false_iff_ne.2 h2816) (beq_eq_false_iff_ne.2 h3072) (beq_eq_false_iff_ne.2 h2818) (beq_eq_false_iff_ne.2 h3074) (beq_eq_false_iff_ne.2 h3073)
section
variable {w : World} {ops : Array Oper} {rest : List Oper} {o : Oper} {a : Act} {Q : Exit → Act → World → Prop}
theorem wpList_move_at (hg : o.guard = none) (x : Operand) (v : Value) (hop : o.op = Op.move x) (hx : a.eval x = v) (h : wpList Tryd.prog ops Q rest (a.put o.dst v) w) : wpList Tryd.prog ops Q (o :: rest) a w := by
  refine wpList_plain hg fun K hK => ?_
  unfold Oper.wp
  simp only [execOp, hop, hx, Sem.run_pure, Result.andThen_ok]
  exact hK _ _ h
theorem wpList_nil_at (hg : o.guard = none) (x : Operand) (p : Addr) (hop : o.op = Op.nilCheck x) (hx : a.eval x = .pointer (some p)) (h : wpList Tryd.prog ops Q rest (a.put o.dst (.pointer (some p))) w) : wpList Tryd.prog ops Q (o :: rest) a w := by
  refine wpList_plain hg fun K hK => ?_
  unfold Oper.wp
  simp only [execOp, hop, hx, Sem.run_pure, Result.andThen_ok]
  exact hK _ _ h
theorem wpList_load_file (hg : o.guard = none) (x : Operand) (ho : o.op = .load 29 x) (b : Nat) (m : Int) (K : Nat → Nat) (hx : a.eval x = .pointer (some ⟨b, 0, none⟩)) (hb : Box 29 w b (fileC m K))
    (h : wpList Tryd.prog ops Q rest (a.put o.dst (.agg (fileC m K))) w) : wpList Tryd.prog ops Q (o :: rest) a w :=
  wpList_load_row hg 29 x ho b hx 29 _ (0, 0) _ hb Tryd.underlying29 rfl info29 h
def zeroC : Array Value := fileC 0 fun _ => 0
theorem infoz29 : (Tryd.prog.info? 29).map (fun i => (i.zero, i.size)) = some (some (.agg zeroC), 23) := by kernel_rfl
theorem run_alloc29 (w : World) : (Instr.alloc 29 true (.tuple #[])).run Tryd.prog w = .ok (.pointer (some ⟨w.heap.size, 0, none⟩)) (w.alloc (.cells zeroC 29)) := by
  have h := infoz29
  cases hq : Tryd.prog.info? 29 with
  | none => simp [hq] at h
  | some i =>
    have hz : i.zero = some (.agg zeroC) := by simp [hq] at h; exact h.1
    simp [Instr.alloc, zeroValue, typeInfo, hq, hz, newVar, newRow, Value.cells]
theorem wpList_alloc_file (hg : o.guard = none) (hop : o.op = Op.alloc 29) (h : ∀ W, W = w.alloc (.cells zeroC 29) → wpList Tryd.prog ops Q rest (a.put o.dst (.pointer (some ⟨w.heap.size, 0, none⟩))) W) : wpList Tryd.prog ops Q (o :: rest) a w := by
  refine wpList_plain hg fun K hK => ?_
  unfold Oper.wp
  simp [execOp, hop, run_alloc29 w, Result.andThen]
  exact hK _ _ (h _ rfl)
end
theorem zeroC_size : zeroC.size = 23 := rfl
theorem raw_any (m : Int) (K : Nat → Nat) (n : Int) (b : Nat) (hK : Ok K) (w : World) (hB : Box 29 w b (fileC m K)) : Calls Tryd.prog 14 #[.pointer (some ⟨b, 0, none⟩), .int .i64 n] w fun e w' => e = .returned (.int .u64 (readN (upd K 2 (K 2 &&& 18446744073709551069)) n : Nat)) ∧ Below w.heap.size w w' := by
  have HB : Hid (Box 29 w b (fileC m K)) := hB
  have HK : Hid (Ok K) := hK
  have hv : bits .andNot .u64 ((K 2 : Nat) : Int) 546 = ((K 2 &&& 18446744073709551069 : Nat) : Int) := u64_andNot_nat _ 546 (hK _) (by decide)
  have HL : Hid (K 2 &&& 18446744073709551069 < 18446744073709551616) := and_lt _ _ (hK _)
  generalize K 2 &&& 18446744073709551069 = y at *
  clear hB hK
  go_enter Tryd.func14, Tryd.ntmps14
  go_upto_region 1 with fail
  refine wp_region_list ?_
  refine wpList_move_at rfl _ _ rfl rfl ?_
  refine wpList_nil_at rfl _ _ rfl rfl ?_
  refine wpList_load_file rfl _ rfl b m K rfl HB.out ?_
  refine wpList_alloc_file rfl rfl ?_
  intro W0 hW0
  have B0 : Box 29 W0 w.heap.size zeroC := by rw [hW0]; exact Box.new _ _ _
  have L0 : Below w.heap.size w W0 := by rw [hW0]; exact (Below.refl _ _).alloc (Nat.le_refl _) _
  clear hW0
  refine wpList_store_file rfl _ _ rfl w.heap.size m K _ rfl rfl B0 zeroC_size ?_
  intro W1 B1 U1
  have X1 : Hid (Below w.heap.size w W1 ∧ Box 29 W1 w.heap.size (fileC m K)) := ⟨L0.trans (U1.below (Nat.le_refl _) L0.size), B1⟩
  have c2 : W1.cell? ⟨w.heap.size, 6, none⟩ = some (.int .u64 (K 2 : Nat)) := B1.cell 6 _ rfl
  have f2 := B1.frozen 6
  clear B0 L0 B1 U1
  go_wp2_with fail
  have X2 : Hid (Below w.heap.size w (W1.setCell ⟨w.heap.size, 6, none⟩ (.int .u64 (y : Nat))) ∧ Box 29 (W1.setCell ⟨w.heap.size, 6, none⟩ (.int .u64 (y : Nat))) w.heap.size (fileC m (upd K 2 y))) := ⟨X1.out.1.setCell (Nat.le_refl _) _, by rw [← (set_fileC m K y).2.2.1]; exact X1.out.2.set 6 _⟩
  refine (read_any m (upd K 2 y) n w.heap.size (HK.out.upd 2 y HL.out) _ X2.out.2).mono ?_
  rintro e w3 ⟨rfl, hb3⟩
  go_wp2_with fail
  go_ret
  exact ⟨rfl, X2.out.1.trans (hb3.mono X2.out.1.size)⟩
theorem hold_any (m : Int) (K : Nat → Nat) (x b : Nat) (hx : x < 18446744073709551616) (w : World) (hB : Box 29 w b (fileC m K)) : Calls Tryd.prog 27 #[.pointer (some ⟨b, 0, none⟩), .int .u64 (x : Int)] w fun e w' => e = .returned (.tuple #[]) ∧ Box 29 w' b (fileC m (upd K 2 (x &&& 2696))) ∧ Upon b w w' := by
  have HB : Hid (Box 29 w b (fileC m K)) := hB
  have c2 : w.cell? ⟨b, 6, none⟩ = some (.int .u64 (K 2 : Nat)) := hB.cell 6 _ rfl
  have f2 := hB.frozen 6
  have hv : bits .and .u64 (x : Int) 2696 = ((x &&& 2696 : Nat) : Int) := bits_and_u64_nat x 2696 hx (by decide)
  generalize x &&& 2696 = y at *
  clear hB hx
  go_enter Tryd.func27, Tryd.ntmps27
  go_wp2
  go_end0
  exact ⟨rfl, (by rw [← (set_fileC m K _).2.2.1]; exact HB.out.set 6 _), (Upon.refl _ _).set 6 _⟩
theorem is_any (m : Int) (K : Nat → Nat) (j : Int) (b : Nat) (hK : Ok K) (w : World) (hB : Box 29 w b (fileC m K)) : Calls Tryd.prog 32 #[.pointer (some ⟨b, 0, none⟩), .int .i64 j] w fun e w' => e = .returned (.bool ((getN (K 0) j 1 : Int) == 1)) ∧ Below w.heap.size w w' := by
  have c0 : w.cell? ⟨b, 1, none⟩ = some (.int .u64 (K 0 : Nat)) := hB.cell 1 _ rfl
  have hg : ∀ V, Calls Tryd.prog 45 #[.int .u64 (K 0 : Nat), .int .i64 j] V fun e w' => e = .returned (.bool ((getN (K 0) j 1 : Int) == 1)) ∧ Below V.heap.size V w' := fun V => bit_all (K 0) j (hK _) V V (Below.refl _ _)
  generalize ((getN (K 0) j 1 : Int) == 1) = y at *
  clear hB hK
  go_enter Tryd.func32, Tryd.ntmps32
  go_wp2_with fail
  refine (hg _).mono ?_
  rintro e w1 ⟨rfl, hb1⟩
  go_wp2_with fail
  go_ret
  exact ⟨rfl, hb1⟩
end Go.Proofs.YtebdlefdkadhnaaDoor
