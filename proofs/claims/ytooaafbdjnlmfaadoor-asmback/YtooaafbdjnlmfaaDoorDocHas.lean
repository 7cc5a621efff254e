/- The document's calls Rd, Rs1 and Rs2 of layer 3: has a form these parts? -/
import Derived.Test.YtooaafbdjnlmfaaDoorDocIn
namespace Go.Proofs.YtooaafbdjnlmfaaDoor
open Go.RowKit
set_option linter.unusedVariables false
set_option linter.unusedSimpArgs false
set_option maxRecDepth 100000 in
theorem drd_any (f : Int) (w : World) : Calls Tryd.prog 15 #[.int .i64 f] w fun e w' => e = .returned (.bool (!([4, 6, 11, 16] : List Int).contains f)) ∧ Below w.heap.size w w' := by
  have hi : Calls Tryd.prog 18 #[.int .i64 f, .slice (some ⟨w.heap.size, 0, none⟩) 4 4] (w.alloc (.cells #[.int .i64 4, .int .i64 6, .int .i64 11, .int .i64 16] 3)) fun e w' => e = .returned (.bool (([4, 6, 11, 16] : List Int).contains f)) ∧ w' = w.alloc (.cells #[.int .i64 4, .int .i64 6, .int .i64 11, .int .i64 16] 3) := in_new f [4, 6, 11, 16] 4 rfl (by decide) 3 w
  have HI : Hid _ := hi
  clear hi
  generalize ([4, 6, 11, 16] : List Int).contains f = bb at *
  go_enter Tryd.func15, Tryd.ntmps15
  go_wp2_with fail
  refine Calls.mono (by exact HI.out) ?_
  rintro e w1 ⟨rfl, hw1⟩
  rw [hw1]
  clear hw1
  go_wp2
  go_ret
  exact ⟨rfl, (Below.refl _ _).alloc (Nat.le_refl _) _⟩
set_option maxRecDepth 100000 in
theorem drs1_any (f : Int) (w : World) : Calls Tryd.prog 16 #[.int .i64 f] w fun e w' => e = .returned (.bool (!([1, 2, 11, 13] : List Int).contains f)) ∧ Below w.heap.size w w' := by
  have hi : Calls Tryd.prog 18 #[.int .i64 f, .slice (some ⟨w.heap.size, 0, none⟩) 4 4] (w.alloc (.cells #[.int .i64 1, .int .i64 2, .int .i64 11, .int .i64 13] 3)) fun e w' => e = .returned (.bool (([1, 2, 11, 13] : List Int).contains f)) ∧ w' = w.alloc (.cells #[.int .i64 1, .int .i64 2, .int .i64 11, .int .i64 13] 3) := in_new f [1, 2, 11, 13] 4 rfl (by decide) 3 w
  have HI : Hid _ := hi
  clear hi
  generalize ([1, 2, 11, 13] : List Int).contains f = bb at *
  go_enter Tryd.func16, Tryd.ntmps16
  go_wp2_with fail
  refine Calls.mono (by exact HI.out) ?_
  rintro e w1 ⟨rfl, hw1⟩
  rw [hw1]
  clear hw1
  go_wp2
  go_ret
  exact ⟨rfl, (Below.refl _ _).alloc (Nat.le_refl _) _⟩
set_option maxRecDepth 100000 in
theorem drs2_any (f : Int) (w : World) : Calls Tryd.prog 17 #[.int .i64 f] w fun e w' => e = .returned (.bool (([4, 6, 9, 15, 16] : List Int).contains f)) ∧ Below w.heap.size w w' := by
  have hi : Calls Tryd.prog 18 #[.int .i64 f, .slice (some ⟨w.heap.size, 0, none⟩) 5 5] (w.alloc (.cells #[.int .i64 4, .int .i64 6, .int .i64 9, .int .i64 15, .int .i64 16] 3)) fun e w' => e = .returned (.bool (([4, 6, 9, 15, 16] : List Int).contains f)) ∧ w' = w.alloc (.cells #[.int .i64 4, .int .i64 6, .int .i64 9, .int .i64 15, .int .i64 16] 3) := in_new f [4, 6, 9, 15, 16] 5 rfl (by decide) 3 w
  have HI : Hid _ := hi
  clear hi
  generalize ([4, 6, 9, 15, 16] : List Int).contains f = bb at *
  go_enter Tryd.func17, Tryd.ntmps17
  go_wp2_with fail
  refine Calls.mono (by exact HI.out) ?_
  rintro e w1 ⟨rfl, hw1⟩
  rw [hw1]
  clear hw1
  go_wp2
  go_ret
  exact ⟨rfl, (Below.refl _ _).alloc (Nat.le_refl _) _⟩
end Go.Proofs.YtooaafbdjnlmfaaDoor
