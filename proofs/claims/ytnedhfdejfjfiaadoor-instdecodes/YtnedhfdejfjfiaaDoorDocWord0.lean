/- The document's call Word of layer 3: a right instruction's word. -/
import Derived.Test.YtnedhfdejfjfiaaDoorDocRight
import Derived.Test.YtnedhfdejfjfiaaDoorDocNum
namespace Go.Proofs.YtnedhfdejfjfiaaDoor
open Go.RowKit
set_option linter.unusedVariables false
set_option linter.unusedSimpArgs false
/-- what the number adds, if the form has one -/
def dNumI (g U : Nat) : Nat := if (docSpan g).2 = true then dNum g U else 0
/-- a word, as the document sums it up -/
def dSum (g cc a b c d f3 n f7 : Nat) (aq rl : Bool) : Nat := cc + a * 128 + b * 32768 + c * 1048576 + d * 1048576 + dA3 g f3 + n + dA7 g f7 + (if aq then 67108864 else 0) + (if rl then 33554432 else 0)
theorem dimm_ok (g : Nat) (hg : g < 17) (ok : Bool) (h : (docSpan g).2 = ok) (gi : Int) (hi : ((g : Nat) : Int) = gi) : ∃ lo hi st : Int, ∀ w, Calls Tryd.prog 35 #[.int .i64 gi] w fun e w' => e = .returned (.tuple #[.int .i64 lo, .int .i64 hi, .int .i64 st, .bool ok]) ∧ w' = w := by
  subst h hi
  exact ⟨_, _, _, dimm_any g hg⟩
theorem add_order (n : Nat) : n + (if false = true then 67108864 else 0) + (if false = true then 33554432 else 0) = n ∧ n + (if false = true then 67108864 else 0) + (if true = true then 33554432 else 0) = n + 33554432 ∧ n + (if true = true then 67108864 else 0) + (if false = true then 33554432 else 0) = n + 67108864 ∧ n + (if true = true then 67108864 else 0) + (if true = true then 33554432 else 0) = n + 67108864 + 33554432 := by simp
theorem dA3_no (g n : Nat) (h : ([1, 2] : List Int).contains (g : Int) = false) : dA3 g n = n * 4096 := by unfold dA3; rw [h]; rfl
theorem dA3_yes (g n : Nat) (h : ([1, 2] : List Int).contains (g : Int) = true) : dA3 g n = 0 := by unfold dA3; rw [h]; rfl
theorem dA7_a (g n : Nat) (h : g = 7 ∨ g = 8 ∨ g = 9 ∨ g = 16) : dA7 g n = n * 33554432 := by unfold dA7; rw [if_pos h]
theorem dA7_b (n : Nat) : dA7 11 n = n * 1048576 := by unfold dA7; rw [if_neg (by decide), if_pos rfl]
theorem dA7_c (g n : Nat) (h : g = 14 ∨ g = 15) : dA7 g n = n * 134217728 := by unfold dA7; rw [if_neg (by omega), if_neg (by omega), if_pos h]
theorem dA7_d (g n : Nat) (h : ¬ (g = 7 ∨ g = 8 ∨ g = 9 ∨ g = 16)) (h2 : ¬ g = 11) (h3 : ¬ (g = 14 ∨ g = 15)) : dA7 g n = 0 := by unfold dA7; rw [if_neg h, if_neg h2, if_neg h3]
theorem cast_sum (x y z u : Nat) (h : x = y + z + u) : (x : Int) = y + z + u := by omega
end Go.Proofs.YtnedhfdejfjfiaaDoor
