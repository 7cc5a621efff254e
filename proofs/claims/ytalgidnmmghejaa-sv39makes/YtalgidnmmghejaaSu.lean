/- The law Sv39Makes: words of entries and of the register. -/
import Derived.Test.YtalgidnmmghejaaSt
namespace Go.Proofs.Ytalgidnmmghejaa
open Go.RowKit
set_option linter.unusedVariables false
set_option linter.unusedSimpArgs false
set_option maxRecDepth 100000
set_option maxHeartbeats 1000000 in
theorem makes_core (x : Nat) (hx : x < 18446744073709551616) (u : Bool) (w : World) : Calls Try.prog 7 #[.int .u64 (x : Int), .bool u] w fun e w' => e = .returned (.bool true) ∧ Below w.heap.size w w' := by
  by_cases h1 : x % 4096 = 0
  case neg =>
    have r1 : ((x : Int) % 4096 == 0) = false := by simp; omega
    have r2 : ¬ (x : Int) % 4096 = 0 := by omega
    clear h1
    go_enter Try.func7, Try.ntmps7
    go_wp2_with fail
    refine (awake_any _).mono ?_
    rintro e w1 ⟨rfl, hb1⟩
    go_wp2_with fail
    go_ret
    exact ⟨by simp, by assumption⟩
  have r1 : ((x : Int) % 4096 == 0) = true := by simp; omega
  have r2 : (x : Int) % 4096 = 0 := by omega
  by_cases h2 : x < 72057594037927936
  case neg =>
    have r3 : decide (72057594037927936 ≤ (x : Int)) = true := by simp; omega
    have r4 : decide ((x : Int) < 72057594037927936) = false := by simp; omega
    have r5 : (72057594037927936 : Int) ≤ (x : Int) := by omega
    clear h1 h2
    go_enter Try.func7, Try.ntmps7
    go_wp2_with fail
    refine (awake_any _).mono ?_
    rintro e w1 ⟨rfl, hb1⟩
    go_wp2_with fail
    go_ret
    exact ⟨by simp, by assumption⟩
  have r3 : decide (72057594037927936 ≤ (x : Int)) = false := by simp; omega
  obtain ⟨n, hn⟩ : ∃ n : Nat, n = x / 4096 := ⟨_, rfl⟩
  have hn2 : (x : Int) / 4096 = (n : Nat) := by omega
  have hn3 : n < 17592186044416 := by omega
  have hg : E.getN x 12 44 = n := by
    have h := E.getN_in x 12 44 (by omega)
    rw [show ((12 : Nat) : Int) = 12 from rfl, show (min (44 : Int) 64).toNat = 44 from by decide] at h
    omega
  clear h1 h2 hn
  have ce : ∀ V, Below w.heap.size w V → Calls Try.prog 26 #[.int .u64 (x : Int)] V fun e w' => e = .returned (.int .u64 ((n : Int) * 1024 + 1)) ∧ Below w.heap.size w w' := fun V h => by
    have := entry_any x hx w V h
    rw [hg, show ((n * 1024 + 1 : Nat) : Int) = (n : Int) * 1024 + 1 from by omega] at this
    exact this
  have cs : ∀ V, Below w.heap.size w V → Calls Try.prog 28 #[.int .u64 (x : Int)] V fun e w' => e = .returned (.int .u64 (9223372036854775808 + (n : Int))) ∧ Below w.heap.size w w' := fun V h => by
    have := satp_any x hx w V h
    rw [hg, show ((9223372036854775808 + n : Nat) : Int) = 9223372036854775808 + (n : Int) from by omega] at this
    exact this
  cases u
  · have cl : ∀ V, Below w.heap.size w V → Calls Try.prog 27 #[.int .u64 (x : Int), .bool false] V fun e w' => e = .returned (.int .u64 ((n : Int) * 1024 + 207)) ∧ Below w.heap.size w w' := fun V h => by
      have := leaf_any x false hx w V h
      rw [show ((leafN x false : Nat) : Int) = (n : Int) * 1024 + 207 from by unfold leafN; rw [hg]; simp] at this
      exact this
    clear hx hg
    go_enter Try.func7, Try.ntmps7
    go_wp2_with fail
    refine (awake_any _).mono ?_
    rintro e w1 ⟨rfl, hb1⟩
    go_wp2_with fail
    refine (ce _ (by assumption)).mono ?_
    rintro e w2 ⟨rfl, hb2⟩
    go_wp2_with fail
    refine (cl _ (by assumption)).mono ?_
    rintro e w3 ⟨rfl, hb3⟩
    go_wp2_with fail
    refine (cs _ (by assumption)).mono ?_
    rintro e w4 ⟨rfl, hb4⟩
    go_wp2_with fail
    go_ret
    exact ⟨by simp, by assumption⟩
  · have cl : ∀ V, Below w.heap.size w V → Calls Try.prog 27 #[.int .u64 (x : Int), .bool true] V fun e w' => e = .returned (.int .u64 ((n : Int) * 1024 + 223)) ∧ Below w.heap.size w w' := fun V h => by
      have := leaf_any x true hx w V h
      rw [show ((leafN x true : Nat) : Int) = (n : Int) * 1024 + 223 from by unfold leafN; rw [hg]; simp] at this
      exact this
    clear hx hg
    go_enter Try.func7, Try.ntmps7
    go_wp2_with fail
    refine (awake_any _).mono ?_
    rintro e w1 ⟨rfl, hb1⟩
    go_wp2_with fail
    refine (ce _ (by assumption)).mono ?_
    rintro e w2 ⟨rfl, hb2⟩
    go_wp2_with fail
    refine (cl _ (by assumption)).mono ?_
    rintro e w3 ⟨rfl, hb3⟩
    go_wp2_with fail
    refine (cs _ (by assumption)).mono ?_
    rintro e w4 ⟨rfl, hb4⟩
    go_wp2_with fail
    go_ret
    exact ⟨by simp, by assumption⟩
end Go.Proofs.Ytalgidnmmghejaa
