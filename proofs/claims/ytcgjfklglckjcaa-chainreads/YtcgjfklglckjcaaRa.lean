/- Power, Areas and Passed on both sides; the page's example. -/
import Derived.Test.YtcgjfklglckjcaaBoth
namespace Go.Proofs.Ytcgjfklglckjcaa
open Go.RowKit
set_option linter.unusedVariables false
set_option linter.unusedSimpArgs false
set_option maxRecDepth 100000

/-- may a queue have so many entries? -/
def powB (n : Int) : Bool := n == 1 || (n == 2 || (n == 4 || (n == 8 || (n == 16 || (n == 32 || (n == 64 || (n == 128 || n == 256)))))))
theorem pow_and : (List.range 257).all (fun m => m == 0 || (bits BinOp.and IntKind.i64 (m : Int) ((m : Int) - 1) == 0) == powB (m : Int)) = true := by decide +kernel
theorem pow_out {n : Int} (h : n < 1 ∨ 256 < n) : powB n = false := by
  simp only [powB, Bool.or_eq_false_iff, beq_eq_false_iff_ne]
  omega
theorem pow_in {n : Int} (h : powB n = true) : ∃ m : Nat, n = m ∧ 1 ≤ m ∧ m ≤ 256 := by
  by_cases h1 : n < 1 ∨ 256 < n
  · rw [pow_out h1] at h; cases h
  · exact ⟨n.toNat, by omega, by omega, by omega⟩
theorem rpower_any (n : Int) (w : World) : Calls Try.prog 34 #[.int .i64 n] w fun e w' => e = .returned (.bool (powB n)) ∧ ∃ q, w' = w.drewN q := by
  have key : ∀ k : Nat, k ≤ 9 → ((2 ^ k : Nat) : Int) ≤ 512 := fun k hk => by
    have : (2 : Nat) ^ k ≤ 2 ^ 9 := Nat.pow_le_pow_right (by decide) hk
    omega
  go_enter Try.func34, Try.ntmps34
  go_wp2_with fail
  go_loopw [3] (fun v wr => ∃ k : Nat, k ≤ 9 ∧ v = .int .i64 ((2 ^ k : Nat) : Int) ∧ (∀ j, j < k → n ≠ ((2 ^ j : Nat) : Int)) ∧ ∃ q, wr = w.drewN q) (fun v _ => 512 - (intOf v).toNat)
  case atStart => exact ⟨0, by omega, rfl, fun j hj => by omega, 0, rfl⟩
  case round =>
    obtain ⟨k, hk, rfl, hj, q, rfl⟩ := hrel
    have HJ : Hid (∀ j, j < k → n ≠ ((2 ^ j : Nat) : Int)) := hj
    clear hj
    by_cases h9 : k = 9
    · subst h9
      have hh : ¬ (((2 ^ 9 : Nat) : Int) ≤ 256) := by decide
      clear key
      generalize hx : ((2 ^ 9 : Nat) : Int) = x at *
      clear hx
      go_wp2_with fail
      go_ret
      refine ⟨ret_bool ?_, _, rfl⟩
      symm
      simp only [powB, Bool.or_eq_false_iff, beq_eq_false_iff_ne]
      have := HJ.out
      exact ⟨this 0 (by decide), this 1 (by decide), this 2 (by decide), this 3 (by decide), this 4 (by decide), this 5 (by decide), this 6 (by decide), this 7 (by decide), this 8 (by decide)⟩
    · have h256 : ((2 ^ k : Nat) : Int) ≤ 256 := by
        have : (2 : Nat) ^ k ≤ 2 ^ 8 := Nat.pow_le_pow_right (by decide) (by omega)
        omega
      have hpos : (0 : Int) < ((2 ^ k : Nat) : Int) := by
        have : 0 < 2 ^ k := Nat.pow_pos (by decide)
        omega
      have hdb : ((2 ^ (k + 1) : Nat) : Int) = 2 * ((2 ^ k : Nat) : Int) := by rw [Nat.pow_succ]; omega
      have HD : Hid (((2 ^ (k + 1) : Nat) : Int) = 2 * ((2 ^ k : Nat) : Int) ∧ k ≠ 9) := ⟨hdb, h9⟩
      have HP : Hid (n = ((2 ^ k : Nat) : Int) → powB n = true) := by
        intro hn
        rw [hn]
        have : (List.range 9).all (fun k => powB ((2 ^ k : Nat) : Int)) = true := by decide +kernel
        exact List.all_eq_true.1 this k (List.mem_range.2 (by omega))
      clear hdb h9 key
      generalize hx : ((2 ^ k : Nat) : Int) = x at *
      have HX : Hid (((2 ^ k : Nat) : Int) = x) := hx
      clear hx
      by_cases he : n = x
      · have hb : (n == x) = true := by simp [he]
        have hpw : Hid (powB n = true) := HP.out he
        clear he
        go_wp2_with fail
        go_ret
        exact ⟨ret_bool hpw.out.symm, _, rfl⟩
      · have hb : (n == x) = false := by simp [he]
        have HE : Hid (n ≠ x) := he
        clear he
        go_wp2_with fail
        go_roundw
        case rel =>
          refine ⟨k + 1, by have := HD.out.2; omega, by rw [HD.out.1], fun j hj => ?_, _, rfl⟩
          by_cases hjk : j = k
          · rw [hjk, HX.out]; exact HE.out
          · exact HJ.out j (by omega)
        case measure => simp [intOf]; omega
/-- whether a count, gone from b to c, has gone past a -/
def pastB (a b c : Nat) : Bool := decide ((c + 131071 - a) % 65536 < (c + 65536 - b) % 65536)
theorem wrap16 (x : Int) : IntKind.u16.wrap x = x % 65536 := by simp [IntKind.wrap, IntKind.signed, IntKind.bits]
theorem rareas_any (n D A U : Nat) (hn : n ≤ 1048576) (w : World) : Calls Try.prog 19 #[.agg #[.int .i64 (n : Int), .int .u64 (D : Int), .int .u64 (A : Int), .int .u64 (U : Int)]] w fun e w' => ∃ g, e = .returned (.slice (some ⟨g, 0, none⟩) 3 3) ∧ w.heap.size ≤ g ∧ w'.heap[g]? = some (.cells #[.int .u64 (D : Int), .int .u64 (16 * (n : Int)), .int .u64 (A : Int), .int .u64 (6 + 2 * (n : Int)), .int .u64 (U : Int), .int .u64 (6 + 8 * (n : Int))] 38 (0, 0)) ∧ Below w.heap.size w w' := by
  go_enter Try.func19, Try.ntmps19
  go_wp2_with fail
  go_ret
  exact ⟨w.heap.size + 1, rfl, by omega, by have h := heap_alloc_new (w.alloc (.cells #[.int .i64 (n : Int), .int .u64 (D : Int), .int .u64 (A : Int), .int .u64 (U : Int)] 25)) (.cells #[.int .u64 (D : Int), .int .u64 (16 * (n : Int)), .int .u64 (A : Int), .int .u64 (6 + 2 * (n : Int)), .int .u64 (U : Int), .int .u64 (6 + 8 * (n : Int))] 38); rwa [World.size_alloc] at h, two_boxes w _ _⟩
end Go.Proofs.Ytcgjfklglckjcaa
