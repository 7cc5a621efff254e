/- The library's call Sort at a list of at most two numbers. -/
import Derived.Test.YthnmoalomodbpaaHunt
import Derived.Test.YthnmoalomodbpaaShelf
import Derived.BigQuiet
import Derived.Deep.QuietTactic
namespace Go.Proofs.Ythnmoalomodbpaa
open Go.RowKit Go.Maps
set_option linter.unusedVariables false
theorem nan_any {w : World} (x : Nat) : Calls Try.prog 98 #[.int .u64 (x : Nat)] w fun e w' => e = .returned (.bool false) ∧ w' = w := by
  go_enter Try.func98, Try.ntmps98
  go_wp2
  go_ret
  exact ⟨by simp, rfl⟩
theorem ord_any {w : World} (x y : Nat) : Calls Try.prog 88 #[.int .u64 (x : Nat), .int .u64 (y : Nat)] w fun e w' => e = .returned (.bool (decide (x < y))) ∧ w' = w := by
  go_enter Try.func88, Try.ntmps88
  go_wp2_with (first | (go_at_call 98; refine (nan_any _).mono ?_; rintro e w' ⟨rfl, rfl⟩))
  go_ret
  exact ⟨by simp, rfl⟩
/-- the world with two numbers laid in their order -/
def sortW (w : World) (g x y : Nat) : World := if y < x then ((w.setCell ⟨g, 1, none⟩ (.int .u64 (x : Nat))).setCell ⟨g, 0, none⟩ (.int .u64 (y : Nat))) else w
set_option maxHeartbeats 1000000 in
theorem ins_two {w : World} {g c x y : Nat} (c0 : w.cell? ⟨g, 0, none⟩ = some (.int .u64 (x : Nat))) (c1 : w.cell? ⟨g, 1, none⟩ = some (.int .u64 (y : Nat))) (f0 : w.frozen? ⟨g, 0, none⟩ = false) (f1 : w.frozen? ⟨g, 1, none⟩ = false) :
    Calls Try.prog 82 #[.slice (some ⟨g, 0, none⟩) 2 c, .int .i64 0, .int .i64 2] w fun e w' => e = .returned (.tuple #[]) ∧ ∃ q, w' = (sortW w g x y).drewN q := by
  go_enter Try.func82, Try.ntmps82
  go_wp2
  go_loopw [6] (fun i wr => (i = .int .i64 1 ∧ w = wr) ∨ (i = .int .i64 2 ∧ ∃ q, wr = (sortW w g x y).drewN q)) (fun i _ => 2 - (intOf i).toNat)
  case atStart => exact .inl ⟨rfl, rfl⟩
  case round =>
    rcases hrel with ⟨rfl, rfl⟩ | ⟨rfl, q, rfl⟩
    · go_wp2
      go_loopw [7] (fun j wr => (j = .int .i64 1 ∧ w = wr) ∨ (j = .int .i64 0 ∧ y < x ∧ ∃ q, wr = ((w.setCell ⟨g, 1, none⟩ (.int .u64 (x : Nat))).setCell ⟨g, 0, none⟩ (.int .u64 (y : Nat))).drewN q)) (fun i _ => (intOf i).toNat)
      case atStart => exact .inl ⟨rfl, rfl⟩
      case round =>
        rcases hrel with ⟨rfl, rfl⟩ | ⟨rfl, hlt, q, rfl⟩
        · by_cases hlt : y < x
          · have hd : decide (y < x) = true := by simp [hlt]
            go_wp2
            go_quiet (first | (go_at_call 88; refine Calls.quiet_of_same (ord_any _ _)))
            go_wp2
            go_region
            all_goals go_wp2
            exact ⟨.inr ⟨rfl, hlt, nq + 1, rfl⟩, by simp [intOf]⟩
          · have hd : decide (y < x) = false := by simp [hlt]
            go_wp2
            go_quiet (first | (go_at_call 88; refine Calls.quiet_of_same (ord_any _ _)))
            go_wp2
            exact ⟨.inr ⟨rfl, nq, by rw [sortW, if_neg hlt]⟩, by simp [intOf]⟩
        · go_wp2
          go_quiet (fail)
          go_wp2
          exact ⟨.inr ⟨rfl, q + nq, by rw [sortW, if_pos hlt]⟩, by simp [intOf]⟩
    · go_wp2
      go_end0
      exact ⟨rfl, q, rfl⟩
theorem ins_one {w : World} {a : Option Addr} {n c : Nat} (hn : n ≤ 1) :
    Calls Try.prog 82 #[.slice a n c, .int .i64 0, .int .i64 n] w fun e w' => e = .returned (.tuple #[]) ∧ w' = w := by
  have hn2 : (n : Int) ≤ 1 := by omega
  go_enter Try.func82, Try.ntmps82
  go_wp2
  go_loopw [6] (fun i wr => i = .int .i64 1 ∧ w = wr) (fun _ _ => 0)
  case atStart => exact ⟨rfl, rfl⟩
  case round =>
    obtain ⟨rfl, rfl⟩ := hrel
    go_wp2
    go_end0
    exact ⟨rfl, rfl⟩
theorem pdq_two {w : World} {g c x y : Nat} (c0 : w.cell? ⟨g, 0, none⟩ = some (.int .u64 (x : Nat))) (c1 : w.cell? ⟨g, 1, none⟩ = some (.int .u64 (y : Nat))) (f0 : w.frozen? ⟨g, 0, none⟩ = false) (f1 : w.frozen? ⟨g, 1, none⟩ = false) (m : Int) :
    Calls Try.prog 79 #[.slice (some ⟨g, 0, none⟩) 2 c, .int .i64 0, .int .i64 2, .int .i64 m] w fun e w' => e = .returned (.tuple #[]) ∧ ∃ q, w' = (sortW w g x y).drewN q := by
  go_enter Try.func79, Try.ntmps79
  go_wp2_with (fail)
  go_loopw [1, 2] (fun a b wr => a = .int .i64 0 ∧ b = .int .i64 2 ∧ w = wr) (fun _ _ _ => 0)
  case atStart => exact ⟨rfl, rfl, rfl⟩
  case round =>
    obtain ⟨rfl, rfl, rfl⟩ := hrel
    go_wp2_with (first | (go_at_call 82; refine (ins_two c0 c1 f0 f1).mono ?_; rintro e w' ⟨rfl, q, rfl⟩))
    (try simp only [Exit.inBlock, Exit.then]); refine bodyPost_ret (results_none rfl _ _ _) rfl ?_
    exact ⟨rfl, q, rfl⟩
theorem pdq_one {w : World} {a : Option Addr} {n c : Nat} (hn : n ≤ 1) (m : Int) :
    Calls Try.prog 79 #[.slice a n c, .int .i64 0, .int .i64 n, .int .i64 m] w fun e w' => e = .returned (.tuple #[]) ∧ w' = w := by
  have hn2 : (n : Int) ≤ 1 := by omega
  go_enter Try.func79, Try.ntmps79
  go_wp2_with (fail)
  go_loopw [1, 2] (fun a b wr => a = .int .i64 0 ∧ b = .int .i64 n ∧ w = wr) (fun _ _ _ => 0)
  case atStart => exact ⟨rfl, rfl, rfl⟩
  case round =>
    obtain ⟨rfl, rfl, rfl⟩ := hrel
    go_wp2_with (first | (go_at_call 82; refine (ins_one hn).mono ?_; rintro e w' ⟨rfl, rfl⟩))
    (try simp only [Exit.inBlock, Exit.then]); refine bodyPost_ret (results_none rfl _ _ _) rfl ?_
    exact ⟨rfl, rfl⟩
/-- Sort at two numbers -/
theorem sort_two {w : World} {g c x y : Nat} (c0 : w.cell? ⟨g, 0, none⟩ = some (.int .u64 (x : Nat))) (c1 : w.cell? ⟨g, 1, none⟩ = some (.int .u64 (y : Nat))) (f0 : w.frozen? ⟨g, 0, none⟩ = false) (f1 : w.frozen? ⟨g, 1, none⟩ = false) :
    Calls Try.prog 73 #[.slice (some ⟨g, 0, none⟩) 2 c] w fun e w' => e = .returned (.tuple #[]) ∧ ∃ q, w' = (sortW w g x y).drewN q := by
  go_enter Try.func73, Try.ntmps73
  go_wp2_with (first | (go_at_call 80; refine (Try.bits_Len _ _ (by omega) (by omega)).mono ?_; rintro e w' ⟨rfl, rfl⟩) | (go_at_call 79; refine (pdq_two c0 c1 f0 f1 _).mono ?_; rintro e w' ⟨rfl, q, rfl⟩))
  go_end0
  exact ⟨rfl, q, rfl⟩
/-- Sort at one number, or none -/
theorem sort_one {w : World} {a : Option Addr} {n c : Nat} (hn : n ≤ 1) :
    Calls Try.prog 73 #[.slice a n c] w fun e w' => e = .returned (.tuple #[]) ∧ w' = w := by
  have hn2 : (n : Int) ≤ 1 := by omega
  go_enter Try.func73, Try.ntmps73
  go_wp2_with (first | (go_at_call 80; refine (Try.bits_Len _ _ (by omega) (by omega)).mono ?_; rintro e w' ⟨rfl, rfl⟩) | (go_at_call 79; refine (pdq_one hn _).mono ?_; rintro e w' ⟨rfl, rfl⟩))
  go_end0
  exact ⟨rfl, rfl⟩
end Go.Proofs.Ythnmoalomodbpaa
