/- The calls MayWait, MayFence, Call, Fault and Crooked of layer 9, and the document's Fault. -/
import Derived.Test.YtdljceeoofhfnaaOt
import Derived.Test.YtdljceeoofhfnaaDt
namespace Go.Proofs.Ytdljceeoofhfnaa
open Go.RowKit Go.Maps
set_option linter.unusedVariables false
set_option linter.unusedSimpArgs false
set_option maxRecDepth 100000
theorem wait_3 (K : Nat → Nat) (b : Nat) (w : World) (hB : Box 31 w b (fileC 3 K)) : Calls Try.prog 20 #[.pointer (some ⟨b, 0, none⟩)] w fun e w' => e = .returned (.bool true) ∧ Below w.heap.size w w' := by
  have c0 : w.cell? ⟨b, 0, none⟩ = some (.int .i64 3) := hB.cell 0 _ rfl
  clear hB
  go_enter Try.func20, Try.ntmps20
  go_wp2
  go_ret
  exact ⟨rfl, Below.refl _ _⟩
theorem wait_0 (K : Nat → Nat) (b : Nat) (hK : Ok K) (w : World) (hB : Box 31 w b (fileC 0 K)) : Calls Try.prog 20 #[.pointer (some ⟨b, 0, none⟩)] w fun e w' => e = .returned (.bool (!isB K 21)) ∧ Below w.heap.size w w' := by
  have c0 : w.cell? ⟨b, 0, none⟩ = some (.int .i64 0) := hB.cell 0 _ rfl
  have HI : Hid (∀ V, Box 31 V b (fileC 0 K) → Calls Try.prog 19 #[.pointer (some ⟨b, 0, none⟩), .int .i64 21] V fun e w' => e = .returned (.bool (isB K 21)) ∧ Below V.heap.size V w') := fun V hV => isb_any 0 K 21 b hK V hV
  have HB : Hid (Box 31 w b (fileC 0 K)) := hB
  generalize isB K 21 = y at *
  clear hB hK
  go_enter Try.func20, Try.ntmps20
  go_wp2_with fail
  refine (HI.out _ HB.out).mono ?_
  rintro e w1 ⟨rfl, hb1⟩
  go_wp2_with fail
  go_ret
  exact ⟨rfl, hb1⟩
theorem wait_1 (K : Nat → Nat) (b : Nat) (hK : Ok K) (w : World) (hB : Box 31 w b (fileC 1 K)) : Calls Try.prog 20 #[.pointer (some ⟨b, 0, none⟩)] w fun e w' => e = .returned (.bool (!isB K 21)) ∧ Below w.heap.size w w' := by
  have c0 : w.cell? ⟨b, 0, none⟩ = some (.int .i64 1) := hB.cell 0 _ rfl
  have HI : Hid (∀ V, Box 31 V b (fileC 1 K) → Calls Try.prog 19 #[.pointer (some ⟨b, 0, none⟩), .int .i64 21] V fun e w' => e = .returned (.bool (isB K 21)) ∧ Below V.heap.size V w') := fun V hV => isb_any 1 K 21 b hK V hV
  have HB : Hid (Box 31 w b (fileC 1 K)) := hB
  generalize isB K 21 = y at *
  clear hB hK
  go_enter Try.func20, Try.ntmps20
  go_wp2_with fail
  refine (HI.out _ HB.out).mono ?_
  rintro e w1 ⟨rfl, hb1⟩
  go_wp2_with fail
  go_ret
  exact ⟨rfl, hb1⟩
theorem fence_3 (K : Nat → Nat) (b : Nat) (w : World) (hB : Box 31 w b (fileC 3 K)) : Calls Try.prog 22 #[.pointer (some ⟨b, 0, none⟩)] w fun e w' => e = .returned (.bool true) ∧ Below w.heap.size w w' := by
  have c0 : w.cell? ⟨b, 0, none⟩ = some (.int .i64 3) := hB.cell 0 _ rfl
  clear hB
  go_enter Try.func22, Try.ntmps22
  go_wp2
  go_ret
  exact ⟨rfl, Below.refl _ _⟩
theorem fence_1 (K : Nat → Nat) (b : Nat) (hK : Ok K) (w : World) (hB : Box 31 w b (fileC 1 K)) : Calls Try.prog 22 #[.pointer (some ⟨b, 0, none⟩)] w fun e w' => e = .returned (.bool (!isB K 20)) ∧ Below w.heap.size w w' := by
  have c0 : w.cell? ⟨b, 0, none⟩ = some (.int .i64 1) := hB.cell 0 _ rfl
  have HI : Hid (∀ V, Box 31 V b (fileC 1 K) → Calls Try.prog 19 #[.pointer (some ⟨b, 0, none⟩), .int .i64 20] V fun e w' => e = .returned (.bool (isB K 20)) ∧ Below V.heap.size V w') := fun V hV => isb_any 1 K 20 b hK V hV
  have HB : Hid (Box 31 w b (fileC 1 K)) := hB
  generalize isB K 20 = y at *
  clear hB hK
  go_enter Try.func22, Try.ntmps22
  go_wp2_with fail
  refine (HI.out _ HB.out).mono ?_
  rintro e w1 ⟨rfl, hb1⟩
  go_wp2_with fail
  go_ret
  exact ⟨rfl, hb1⟩
theorem fence_0 (K : Nat → Nat) (b : Nat) (w : World) (hB : Box 31 w b (fileC 0 K)) : Calls Try.prog 22 #[.pointer (some ⟨b, 0, none⟩)] w fun e w' => e = .returned (.bool false) ∧ Below w.heap.size w w' := by
  have c0 : w.cell? ⟨b, 0, none⟩ = some (.int .i64 0) := hB.cell 0 _ rfl
  clear hB
  go_enter Try.func22, Try.ntmps22
  go_wp2
  go_ret
  exact ⟨rfl, Below.refl _ _⟩
theorem call_0 (K : Nat → Nat) (b : Nat) (w : World) (hB : Box 31 w b (fileC 0 K)) : Calls Try.prog 23 #[.pointer (some ⟨b, 0, none⟩)] w fun e w' => e = .returned (.int .i64 8) ∧ Below w.heap.size w w' := by
  have c0 : w.cell? ⟨b, 0, none⟩ = some (.int .i64 0) := hB.cell 0 _ rfl
  clear hB
  go_enter Try.func23, Try.ntmps23
  go_wp2
  go_ret
  exact ⟨rfl, Below.refl _ _⟩
theorem call_1 (K : Nat → Nat) (b : Nat) (w : World) (hB : Box 31 w b (fileC 1 K)) : Calls Try.prog 23 #[.pointer (some ⟨b, 0, none⟩)] w fun e w' => e = .returned (.int .i64 9) ∧ Below w.heap.size w w' := by
  have c0 : w.cell? ⟨b, 0, none⟩ = some (.int .i64 1) := hB.cell 0 _ rfl
  clear hB
  go_enter Try.func23, Try.ntmps23
  go_wp2
  go_ret
  exact ⟨rfl, Below.refl _ _⟩
theorem call_3 (K : Nat → Nat) (b : Nat) (w : World) (hB : Box 31 w b (fileC 3 K)) : Calls Try.prog 23 #[.pointer (some ⟨b, 0, none⟩)] w fun e w' => e = .returned (.int .i64 11) ∧ Below w.heap.size w w' := by
  have c0 : w.cell? ⟨b, 0, none⟩ = some (.int .i64 3) := hB.cell 0 _ rfl
  clear hB
  go_enter Try.func23, Try.ntmps23
  go_wp2
  go_ret
  exact ⟨rfl, Below.refl _ _⟩
def kindN (k a b c : Int) : Int := if k = 0 then a else if k = 1 then b else c
theorem kind_any (k a b c : Int) (w : World) : Calls Try.prog 44 #[.int .i64 k, .int .i64 a, .int .i64 b, .int .i64 c] w fun e w' => e = .returned (.int .i64 (kindN k a b c)) ∧ w' = w := by
  unfold kindN
  by_cases h0 : k = 0
  · subst h0
    rw [if_pos rfl]
    go_enter Try.func44, Try.ntmps44
    go_wp2
    go_ret
    exact ⟨rfl, rfl⟩
  · rw [if_neg h0]
    have g0 : (k == 0) = false := by simp [h0]
    by_cases h1 : k = 1
    · subst h1
      rw [if_pos rfl]
      go_enter Try.func44, Try.ntmps44
      go_wp2
      go_ret
      exact ⟨rfl, rfl⟩
    · rw [if_neg h1]
      have g1 : (k == 1) = false := by simp [h1]
      go_enter Try.func44, Try.ntmps44
      go_wp2
      go_ret
      exact ⟨rfl, rfl⟩
theorem crook_any (k : Int) (w : World) : Calls Try.prog 26 #[.int .i64 k] w fun e w' => e = .returned (.int .i64 (kindN k 0 4 6)) ∧ w' = w := by
  have h := fun V => kind_any k 0 4 6 V
  generalize kindN k 0 4 6 = y at *
  go_enter Try.func26, Try.ntmps26
  go_wp2_with fail
  refine (h _).mono ?_
  rintro e w1 ⟨rfl, hw1⟩
  rw [hw1]
  clear hw1
  go_wp2_with fail
  go_ret
  exact ⟨rfl, rfl⟩
theorem fault_true (k : Int) (w : World) : Calls Try.prog 24 #[.int .i64 k, .bool true] w fun e w' => e = .returned (.int .i64 (kindN k 12 13 15)) ∧ w' = w := by
  have h := fun V => kind_any k 12 13 15 V
  generalize kindN k 12 13 15 = y at *
  go_enter Try.func24, Try.ntmps24
  go_wp2_with fail
  refine (h _).mono ?_
  rintro e w1 ⟨rfl, hw1⟩
  rw [hw1]
  clear hw1
  go_wp2_with fail
  go_ret
  exact ⟨rfl, rfl⟩
theorem fault_false (k : Int) (w : World) : Calls Try.prog 24 #[.int .i64 k, .bool false] w fun e w' => e = .returned (.int .i64 (kindN k 1 5 7)) ∧ w' = w := by
  have h := fun V => kind_any k 1 5 7 V
  generalize kindN k 1 5 7 = y at *
  go_enter Try.func24, Try.ntmps24
  go_wp2_with fail
  refine (h _).mono ?_
  rintro e w1 ⟨rfl, hw1⟩
  rw [hw1]
  clear hw1
  go_wp2_with fail
  go_ret
  exact ⟨rfl, rfl⟩
theorem new_at (t : TypeId) (w : World) (c : Array Value) (n : Nat) (h : w.heap.size = n) (i : Nat) (v : Value) (hv : c[i]? = some v) : (w.alloc (.cells c t)).cell? ⟨n, i, none⟩ = some v := by subst h; exact (Box.new t w c).cell i v hv
theorem alloc_at {w : World} {p : Addr} {v : Value} (h : w.cell? p = some v) (o : Obj) : (w.alloc o).cell? p = some v := by
  rw [World.cell?_alloc_some _ _ _ (by rw [h]; rfl)]; exact h
theorem table_at (w : World) : Below w.heap.size w ((((w.alloc (.cells #[.int .i64 1, .int .i64 12, .int .i64 0] 3)).alloc (.cells #[.int .i64 5, .int .i64 13, .int .i64 4] 3)).alloc (.cells #[.int .i64 7, .int .i64 15, .int .i64 6] 3)).alloc (.cells #[.slice (some ⟨w.heap.size, 0, none⟩) 3 3, .slice (some ⟨w.heap.size + 1, 0, none⟩) 3 3, .slice (some ⟨w.heap.size + 2, 0, none⟩) 3 3] 52)) ∧ ((((w.alloc (.cells #[.int .i64 1, .int .i64 12, .int .i64 0] 3)).alloc (.cells #[.int .i64 5, .int .i64 13, .int .i64 4] 3)).alloc (.cells #[.int .i64 7, .int .i64 15, .int .i64 6] 3)).alloc (.cells #[.slice (some ⟨w.heap.size, 0, none⟩) 3 3, .slice (some ⟨w.heap.size + 1, 0, none⟩) 3 3, .slice (some ⟨w.heap.size + 2, 0, none⟩) 3 3] 52)).cell? ⟨w.heap.size + 3, 0, none⟩ = some (.slice (some ⟨w.heap.size, 0, none⟩) 3 3) ∧ ((((w.alloc (.cells #[.int .i64 1, .int .i64 12, .int .i64 0] 3)).alloc (.cells #[.int .i64 5, .int .i64 13, .int .i64 4] 3)).alloc (.cells #[.int .i64 7, .int .i64 15, .int .i64 6] 3)).alloc (.cells #[.slice (some ⟨w.heap.size, 0, none⟩) 3 3, .slice (some ⟨w.heap.size + 1, 0, none⟩) 3 3, .slice (some ⟨w.heap.size + 2, 0, none⟩) 3 3] 52)).cell? ⟨w.heap.size + 3, 1, none⟩ = some (.slice (some ⟨w.heap.size + 1, 0, none⟩) 3 3) ∧ ((((w.alloc (.cells #[.int .i64 1, .int .i64 12, .int .i64 0] 3)).alloc (.cells #[.int .i64 5, .int .i64 13, .int .i64 4] 3)).alloc (.cells #[.int .i64 7, .int .i64 15, .int .i64 6] 3)).alloc (.cells #[.slice (some ⟨w.heap.size, 0, none⟩) 3 3, .slice (some ⟨w.heap.size + 1, 0, none⟩) 3 3, .slice (some ⟨w.heap.size + 2, 0, none⟩) 3 3] 52)).cell? ⟨w.heap.size + 3, 2, none⟩ = some (.slice (some ⟨w.heap.size + 2, 0, none⟩) 3 3) ∧ (((((w.alloc (.cells #[.int .i64 1, .int .i64 12, .int .i64 0] 3)).alloc (.cells #[.int .i64 5, .int .i64 13, .int .i64 4] 3)).alloc (.cells #[.int .i64 7, .int .i64 15, .int .i64 6] 3)).alloc (.cells #[.slice (some ⟨w.heap.size, 0, none⟩) 3 3, .slice (some ⟨w.heap.size + 1, 0, none⟩) 3 3, .slice (some ⟨w.heap.size + 2, 0, none⟩) 3 3] 52)).cell? ⟨w.heap.size, 0, none⟩ = some (.int .i64 1) ∧ ((((w.alloc (.cells #[.int .i64 1, .int .i64 12, .int .i64 0] 3)).alloc (.cells #[.int .i64 5, .int .i64 13, .int .i64 4] 3)).alloc (.cells #[.int .i64 7, .int .i64 15, .int .i64 6] 3)).alloc (.cells #[.slice (some ⟨w.heap.size, 0, none⟩) 3 3, .slice (some ⟨w.heap.size + 1, 0, none⟩) 3 3, .slice (some ⟨w.heap.size + 2, 0, none⟩) 3 3] 52)).cell? ⟨w.heap.size, 1, none⟩ = some (.int .i64 12) ∧ ((((w.alloc (.cells #[.int .i64 1, .int .i64 12, .int .i64 0] 3)).alloc (.cells #[.int .i64 5, .int .i64 13, .int .i64 4] 3)).alloc (.cells #[.int .i64 7, .int .i64 15, .int .i64 6] 3)).alloc (.cells #[.slice (some ⟨w.heap.size, 0, none⟩) 3 3, .slice (some ⟨w.heap.size + 1, 0, none⟩) 3 3, .slice (some ⟨w.heap.size + 2, 0, none⟩) 3 3] 52)).cell? ⟨w.heap.size, 2, none⟩ = some (.int .i64 0)) ∧ (((((w.alloc (.cells #[.int .i64 1, .int .i64 12, .int .i64 0] 3)).alloc (.cells #[.int .i64 5, .int .i64 13, .int .i64 4] 3)).alloc (.cells #[.int .i64 7, .int .i64 15, .int .i64 6] 3)).alloc (.cells #[.slice (some ⟨w.heap.size, 0, none⟩) 3 3, .slice (some ⟨w.heap.size + 1, 0, none⟩) 3 3, .slice (some ⟨w.heap.size + 2, 0, none⟩) 3 3] 52)).cell? ⟨w.heap.size + 1, 0, none⟩ = some (.int .i64 5) ∧ ((((w.alloc (.cells #[.int .i64 1, .int .i64 12, .int .i64 0] 3)).alloc (.cells #[.int .i64 5, .int .i64 13, .int .i64 4] 3)).alloc (.cells #[.int .i64 7, .int .i64 15, .int .i64 6] 3)).alloc (.cells #[.slice (some ⟨w.heap.size, 0, none⟩) 3 3, .slice (some ⟨w.heap.size + 1, 0, none⟩) 3 3, .slice (some ⟨w.heap.size + 2, 0, none⟩) 3 3] 52)).cell? ⟨w.heap.size + 1, 1, none⟩ = some (.int .i64 13) ∧ ((((w.alloc (.cells #[.int .i64 1, .int .i64 12, .int .i64 0] 3)).alloc (.cells #[.int .i64 5, .int .i64 13, .int .i64 4] 3)).alloc (.cells #[.int .i64 7, .int .i64 15, .int .i64 6] 3)).alloc (.cells #[.slice (some ⟨w.heap.size, 0, none⟩) 3 3, .slice (some ⟨w.heap.size + 1, 0, none⟩) 3 3, .slice (some ⟨w.heap.size + 2, 0, none⟩) 3 3] 52)).cell? ⟨w.heap.size + 1, 2, none⟩ = some (.int .i64 4)) ∧ (((((w.alloc (.cells #[.int .i64 1, .int .i64 12, .int .i64 0] 3)).alloc (.cells #[.int .i64 5, .int .i64 13, .int .i64 4] 3)).alloc (.cells #[.int .i64 7, .int .i64 15, .int .i64 6] 3)).alloc (.cells #[.slice (some ⟨w.heap.size, 0, none⟩) 3 3, .slice (some ⟨w.heap.size + 1, 0, none⟩) 3 3, .slice (some ⟨w.heap.size + 2, 0, none⟩) 3 3] 52)).cell? ⟨w.heap.size + 2, 0, none⟩ = some (.int .i64 7) ∧ ((((w.alloc (.cells #[.int .i64 1, .int .i64 12, .int .i64 0] 3)).alloc (.cells #[.int .i64 5, .int .i64 13, .int .i64 4] 3)).alloc (.cells #[.int .i64 7, .int .i64 15, .int .i64 6] 3)).alloc (.cells #[.slice (some ⟨w.heap.size, 0, none⟩) 3 3, .slice (some ⟨w.heap.size + 1, 0, none⟩) 3 3, .slice (some ⟨w.heap.size + 2, 0, none⟩) 3 3] 52)).cell? ⟨w.heap.size + 2, 1, none⟩ = some (.int .i64 15) ∧ ((((w.alloc (.cells #[.int .i64 1, .int .i64 12, .int .i64 0] 3)).alloc (.cells #[.int .i64 5, .int .i64 13, .int .i64 4] 3)).alloc (.cells #[.int .i64 7, .int .i64 15, .int .i64 6] 3)).alloc (.cells #[.slice (some ⟨w.heap.size, 0, none⟩) 3 3, .slice (some ⟨w.heap.size + 1, 0, none⟩) 3 3, .slice (some ⟨w.heap.size + 2, 0, none⟩) 3 3] 52)).cell? ⟨w.heap.size + 2, 2, none⟩ = some (.int .i64 6)) := by
  refine ⟨((((Below.refl _ _).alloc (Nat.le_refl _) _).alloc (by simp) _).alloc (by simp; omega) _).alloc (by simp; omega) _, new_at _ _ _ _ (by simp) _ _ rfl, new_at _ _ _ _ (by simp) _ _ rfl, new_at _ _ _ _ (by simp) _ _ rfl, ⟨?_, ?_, ?_⟩, ⟨?_, ?_, ?_⟩, ⟨?_, ?_, ?_⟩⟩
  · exact alloc_at (alloc_at (alloc_at (new_at _ _ _ _ (by simp) _ _ rfl) _) _) _
  · exact alloc_at (alloc_at (alloc_at (new_at _ _ _ _ (by simp) _ _ rfl) _) _) _
  · exact alloc_at (alloc_at (alloc_at (new_at _ _ _ _ (by simp) _ _ rfl) _) _) _
  · exact alloc_at (alloc_at (new_at _ _ _ _ (by simp) _ _ rfl) _) _
  · exact alloc_at (alloc_at (new_at _ _ _ _ (by simp) _ _ rfl) _) _
  · exact alloc_at (alloc_at (new_at _ _ _ _ (by simp) _ _ rfl) _) _
  · exact alloc_at (new_at _ _ _ _ (by simp) _ _ rfl) _
  · exact alloc_at (new_at _ _ _ _ (by simp) _ _ rfl) _
  · exact alloc_at (new_at _ _ _ _ (by simp) _ _ rfl) _
set_option maxHeartbeats 1000000 in
theorem rfault_0 (k : Int) (w : World) : Calls Try.prog 25 #[.int .i64 k, .int .i64 0] w fun e w' => e = .returned (.int .i64 (kindN k 1 5 7)) ∧ Below w.heap.size w w' := by
  unfold kindN
  have R0 := table_at w
  by_cases h0 : k = 0
  · subst h0
    rw [if_pos rfl]
    go_enter Try.func25, Try.ntmps25
    go_upto_region 2 with fail
    generalize ((((w.alloc (.cells #[.int .i64 1, .int .i64 12, .int .i64 0] 3)).alloc (.cells #[.int .i64 5, .int .i64 13, .int .i64 4] 3)).alloc (.cells #[.int .i64 7, .int .i64 15, .int .i64 6] 3)).alloc (.cells #[.slice (some ⟨w.heap.size, 0, none⟩) 3 3, .slice (some ⟨w.heap.size + 1, 0, none⟩) 3 3, .slice (some ⟨w.heap.size + 2, 0, none⟩) 3 3] 52)) = W at *
    obtain ⟨L0, r0, r1, r2, s0, s1, s2⟩ := R0
    clear r1 r2
    obtain ⟨q0, q1, q2⟩ := s0
    go_wp2_with fail
    go_ret
    exact ⟨rfl, L0⟩
  · rw [if_neg h0]
    have g0 : (k == 0) = false := by simp [h0]
    by_cases h1 : k = 1
    · subst h1
      rw [if_pos rfl]
      go_enter Try.func25, Try.ntmps25
      go_upto_region 2 with fail
      generalize ((((w.alloc (.cells #[.int .i64 1, .int .i64 12, .int .i64 0] 3)).alloc (.cells #[.int .i64 5, .int .i64 13, .int .i64 4] 3)).alloc (.cells #[.int .i64 7, .int .i64 15, .int .i64 6] 3)).alloc (.cells #[.slice (some ⟨w.heap.size, 0, none⟩) 3 3, .slice (some ⟨w.heap.size + 1, 0, none⟩) 3 3, .slice (some ⟨w.heap.size + 2, 0, none⟩) 3 3] 52)) = W at *
      obtain ⟨L0, r0, r1, r2, s0, s1, s2⟩ := R0
      clear r0 r2
      obtain ⟨q0, q1, q2⟩ := s1
      go_wp2_with fail
      go_ret
      exact ⟨rfl, L0⟩
    · rw [if_neg h1]
      have g1 : (k == 1) = false := by simp [h1]
      go_enter Try.func25, Try.ntmps25
      go_upto_region 2 with fail
      generalize ((((w.alloc (.cells #[.int .i64 1, .int .i64 12, .int .i64 0] 3)).alloc (.cells #[.int .i64 5, .int .i64 13, .int .i64 4] 3)).alloc (.cells #[.int .i64 7, .int .i64 15, .int .i64 6] 3)).alloc (.cells #[.slice (some ⟨w.heap.size, 0, none⟩) 3 3, .slice (some ⟨w.heap.size + 1, 0, none⟩) 3 3, .slice (some ⟨w.heap.size + 2, 0, none⟩) 3 3] 52)) = W at *
      obtain ⟨L0, r0, r1, r2, s0, s1, s2⟩ := R0
      clear r0 r1
      obtain ⟨q0, q1, q2⟩ := s2
      go_wp2_with fail
      go_ret
      exact ⟨rfl, L0⟩
set_option maxHeartbeats 1000000 in
theorem rfault_1 (k : Int) (w : World) : Calls Try.prog 25 #[.int .i64 k, .int .i64 1] w fun e w' => e = .returned (.int .i64 (kindN k 12 13 15)) ∧ Below w.heap.size w w' := by
  unfold kindN
  have R0 := table_at w
  by_cases h0 : k = 0
  · subst h0
    rw [if_pos rfl]
    go_enter Try.func25, Try.ntmps25
    go_upto_region 2 with fail
    generalize ((((w.alloc (.cells #[.int .i64 1, .int .i64 12, .int .i64 0] 3)).alloc (.cells #[.int .i64 5, .int .i64 13, .int .i64 4] 3)).alloc (.cells #[.int .i64 7, .int .i64 15, .int .i64 6] 3)).alloc (.cells #[.slice (some ⟨w.heap.size, 0, none⟩) 3 3, .slice (some ⟨w.heap.size + 1, 0, none⟩) 3 3, .slice (some ⟨w.heap.size + 2, 0, none⟩) 3 3] 52)) = W at *
    obtain ⟨L0, r0, r1, r2, s0, s1, s2⟩ := R0
    clear r1 r2
    obtain ⟨q0, q1, q2⟩ := s0
    go_wp2_with fail
    go_ret
    exact ⟨rfl, L0⟩
  · rw [if_neg h0]
    have g0 : (k == 0) = false := by simp [h0]
    by_cases h1 : k = 1
    · subst h1
      rw [if_pos rfl]
      go_enter Try.func25, Try.ntmps25
      go_upto_region 2 with fail
      generalize ((((w.alloc (.cells #[.int .i64 1, .int .i64 12, .int .i64 0] 3)).alloc (.cells #[.int .i64 5, .int .i64 13, .int .i64 4] 3)).alloc (.cells #[.int .i64 7, .int .i64 15, .int .i64 6] 3)).alloc (.cells #[.slice (some ⟨w.heap.size, 0, none⟩) 3 3, .slice (some ⟨w.heap.size + 1, 0, none⟩) 3 3, .slice (some ⟨w.heap.size + 2, 0, none⟩) 3 3] 52)) = W at *
      obtain ⟨L0, r0, r1, r2, s0, s1, s2⟩ := R0
      clear r0 r2
      obtain ⟨q0, q1, q2⟩ := s1
      go_wp2_with fail
      go_ret
      exact ⟨rfl, L0⟩
    · rw [if_neg h1]
      have g1 : (k == 1) = false := by simp [h1]
      go_enter Try.func25, Try.ntmps25
      go_upto_region 2 with fail
      generalize ((((w.alloc (.cells #[.int .i64 1, .int .i64 12, .int .i64 0] 3)).alloc (.cells #[.int .i64 5, .int .i64 13, .int .i64 4] 3)).alloc (.cells #[.int .i64 7, .int .i64 15, .int .i64 6] 3)).alloc (.cells #[.slice (some ⟨w.heap.size, 0, none⟩) 3 3, .slice (some ⟨w.heap.size + 1, 0, none⟩) 3 3, .slice (some ⟨w.heap.size + 2, 0, none⟩) 3 3] 52)) = W at *
      obtain ⟨L0, r0, r1, r2, s0, s1, s2⟩ := R0
      clear r0 r1
      obtain ⟨q0, q1, q2⟩ := s2
      go_wp2_with fail
      go_ret
      exact ⟨rfl, L0⟩
set_option maxHeartbeats 1000000 in
theorem rfault_2 (k : Int) (w : World) : Calls Try.prog 25 #[.int .i64 k, .int .i64 2] w fun e w' => e = .returned (.int .i64 (kindN k 0 4 6)) ∧ Below w.heap.size w w' := by
  unfold kindN
  have R0 := table_at w
  by_cases h0 : k = 0
  · subst h0
    rw [if_pos rfl]
    go_enter Try.func25, Try.ntmps25
    go_upto_region 2 with fail
    generalize ((((w.alloc (.cells #[.int .i64 1, .int .i64 12, .int .i64 0] 3)).alloc (.cells #[.int .i64 5, .int .i64 13, .int .i64 4] 3)).alloc (.cells #[.int .i64 7, .int .i64 15, .int .i64 6] 3)).alloc (.cells #[.slice (some ⟨w.heap.size, 0, none⟩) 3 3, .slice (some ⟨w.heap.size + 1, 0, none⟩) 3 3, .slice (some ⟨w.heap.size + 2, 0, none⟩) 3 3] 52)) = W at *
    obtain ⟨L0, r0, r1, r2, s0, s1, s2⟩ := R0
    clear r1 r2
    obtain ⟨q0, q1, q2⟩ := s0
    go_wp2_with fail
    go_ret
    exact ⟨rfl, L0⟩
  · rw [if_neg h0]
    have g0 : (k == 0) = false := by simp [h0]
    by_cases h1 : k = 1
    · subst h1
      rw [if_pos rfl]
      go_enter Try.func25, Try.ntmps25
      go_upto_region 2 with fail
      generalize ((((w.alloc (.cells #[.int .i64 1, .int .i64 12, .int .i64 0] 3)).alloc (.cells #[.int .i64 5, .int .i64 13, .int .i64 4] 3)).alloc (.cells #[.int .i64 7, .int .i64 15, .int .i64 6] 3)).alloc (.cells #[.slice (some ⟨w.heap.size, 0, none⟩) 3 3, .slice (some ⟨w.heap.size + 1, 0, none⟩) 3 3, .slice (some ⟨w.heap.size + 2, 0, none⟩) 3 3] 52)) = W at *
      obtain ⟨L0, r0, r1, r2, s0, s1, s2⟩ := R0
      clear r0 r2
      obtain ⟨q0, q1, q2⟩ := s1
      go_wp2_with fail
      go_ret
      exact ⟨rfl, L0⟩
    · rw [if_neg h1]
      have g1 : (k == 1) = false := by simp [h1]
      go_enter Try.func25, Try.ntmps25
      go_upto_region 2 with fail
      generalize ((((w.alloc (.cells #[.int .i64 1, .int .i64 12, .int .i64 0] 3)).alloc (.cells #[.int .i64 5, .int .i64 13, .int .i64 4] 3)).alloc (.cells #[.int .i64 7, .int .i64 15, .int .i64 6] 3)).alloc (.cells #[.slice (some ⟨w.heap.size, 0, none⟩) 3 3, .slice (some ⟨w.heap.size + 1, 0, none⟩) 3 3, .slice (some ⟨w.heap.size + 2, 0, none⟩) 3 3] 52)) = W at *
      obtain ⟨L0, r0, r1, r2, s0, s1, s2⟩ := R0
      clear r0 r1
      obtain ⟨q0, q1, q2⟩ := s2
      go_wp2_with fail
      go_ret
      exact ⟨rfl, L0⟩
end Go.Proofs.Ytdljceeoofhfnaa
