/- The call Overlap of layer 1 and the document's answer to it come to one answer; the statement on it returns true for every input. -/
import Derived.Test.YtflpfgbebjamfabAwake
import Derived.OpenShut
import Derived.Deep.QuietTactic
import Derived.BigQuiet
namespace Go.Proofs.Ytflpfgbebjamfab
open Go.RowKit
theorem ret_bool {a b : Bool} (h : a = b) : Ending.returned (.bool a) = .returned (.bool b) := by rw [h]
theorem ret_int {k : IntKind} {a b : Int} (h : a = b) : Ending.returned (.int k a) = .returned (.int k b) := by rw [h]
theorem wrap_u64 (x : Int) : IntKind.u64.wrap x = x % 18446744073709551616 := by simp [IntKind.wrap, IntKind.signed, IntKind.bits]
theorem grown_drewN {W w' : World} (h : Grown W w') (n : Nat) : Grown W (w'.drewN n) := h
/-- a piece lies in another one, by numbers that have no end -/
def inB (a n b s : Int) : Bool := decide (b ≤ a ∧ a + n ≤ b + s)
/-- one sum is less than another one, or, if so asked, alike -/
def lessB (a b c d : Int) (al : Bool) : Bool := decide (a + b < c + d ∨ al = true ∧ a + b = c + d)
theorem sum_any (a b : Int) (ha : 0 ≤ a ∧ a ≤ 18446744073709551615) (hb : 0 ≤ b ∧ b ≤ 18446744073709551615) (w : World) :
    Calls Try.prog 20 #[.int .u64 a, .int .u64 b] w fun e w' => e = .returned (.tuple #[.bool (decide (18446744073709551615 < a + b)), .int .u64 (IntKind.u64.wrap (a + b))]) ∧ w' = w := by
  have h : decide (IntKind.u64.wrap (a + b) < a) = decide (18446744073709551615 < a + b) := by
    rw [wrap_u64, Bool.eq_iff_iff]; simp; omega
  have H : Hid (decide (IntKind.u64.wrap (a + b) < a) = decide (18446744073709551615 < a + b)) := h
  clear h
  go_enter Try.func20, Try.ntmps20
  go_wp2
  go_ret2
  exact ⟨by rw [H.out]; rfl, rfl⟩
theorem less_any (a b c d : Int) (al : Bool) (ha : 0 ≤ a ∧ a ≤ 18446744073709551615) (hb : 0 ≤ b ∧ b ≤ 18446744073709551615) (hc : 0 ≤ c ∧ c ≤ 18446744073709551615) (hd : 0 ≤ d ∧ d ≤ 18446744073709551615) (w : World) :
    Calls Try.prog 16 #[.int .u64 a, .int .u64 b, .int .u64 c, .int .u64 d, .bool al] w fun e w' => e = .returned (.bool (lessB a b c d al)) ∧ w' = w := by
  have e1 : (IntKind.u64.wrap (a + b) = a + b ∧ decide (18446744073709551615 < a + b) = false ∧ a + b ≤ 18446744073709551615) ∨ (IntKind.u64.wrap (a + b) = a + b - 18446744073709551616 ∧ decide (18446744073709551615 < a + b) = true ∧ 18446744073709551615 < a + b) := by
    rw [wrap_u64]; simp only [decide_eq_true_eq, decide_eq_false_iff_not]; omega
  have e2 : (IntKind.u64.wrap (c + d) = c + d ∧ decide (18446744073709551615 < c + d) = false ∧ c + d ≤ 18446744073709551615) ∨ (IntKind.u64.wrap (c + d) = c + d - 18446744073709551616 ∧ decide (18446744073709551615 < c + d) = true ∧ 18446744073709551615 < c + d) := by
    rw [wrap_u64]; simp only [decide_eq_true_eq, decide_eq_false_iff_not]; omega
  rcases e1 with ⟨e1, d1, c1⟩ | ⟨e1, d1, c1⟩ <;> rcases e2 with ⟨e2, d2, c2⟩ | ⟨e2, d2, c2⟩
  all_goals
    go_enter Try.func16, Try.ntmps16
    go_wp2_with (go_at_call 20; refine (sum_any _ _ (by omega) (by omega) _).mono ?_; rintro e w' ⟨rfl, rfl⟩)
    all_goals (go_ret; refine ⟨ret_bool ?_, rfl⟩; rw [Bool.eq_iff_iff]; simp [lessB, *]; try omega)
/-- two pieces have a number in common, by numbers that have no end -/
def ovB (a n b m : Int) : Bool := decide (0 < n ∧ 0 < m ∧ a < b + m ∧ b < a + n)
theorem ovB_comm (a n b m : Int) : ovB b m a n = ovB a n b m := by simp only [ovB, decide_eq_decide]; omega
theorem overlap_any (a n b m : Int) (ha : 0 ≤ a ∧ a ≤ 18446744073709551615) (hn : 0 ≤ n ∧ n ≤ 18446744073709551615) (hb : 0 ≤ b ∧ b ≤ 18446744073709551615) (hm : 0 ≤ m ∧ m ≤ 18446744073709551615) (w : World) :
    Calls Try.prog 7 #[.int .u64 a, .int .u64 n, .int .u64 b, .int .u64 m] w fun e w' => e = .returned (.bool (ovB a n b m)) ∧ w' = w := by
  go_enter Try.func7, Try.ntmps7
  go_wp2
  all_goals (go_ret; exact ⟨ret_bool (by rw [Bool.eq_iff_iff]; simp [ovB]; try omega), rfl⟩)
theorem roverlap_any (a n b m : Int) (ha : 0 ≤ a ∧ a ≤ 18446744073709551615) (hn : 0 ≤ n ∧ n ≤ 18446744073709551615) (hb : 0 ≤ b ∧ b ≤ 18446744073709551615) (hm : 0 ≤ m ∧ m ≤ 18446744073709551615) (w : World) :
    Calls Try.prog 8 #[.int .u64 a, .int .u64 n, .int .u64 b, .int .u64 m] w fun e w' => e = .returned (.bool (ovB a n b m)) ∧ w' = w := by
  have d1 : lessB a 0 b m false = decide (a < b + m) := by simp [lessB]
  have d2 : lessB b 0 a n false = decide (b < a + n) := by simp [lessB]
  go_enter Try.func8, Try.ntmps8
  go_wp2_with (go_at_call 16; refine (less_any _ _ _ _ _ (by omega) (by omega) (by omega) (by omega) _).mono ?_; rintro e w' ⟨rfl, rfl⟩)
  all_goals (go_ret; refine ⟨ret_bool ?_, rfl⟩; rw [Bool.eq_iff_iff]; simp [ovB]; try omega)
theorem overlaps_walk (x0 x1 : Int) (h0 : (Lit.int .u64 x0).wf = true) (h1 : (Lit.int .u64 x1).wf = true) (y0 y1 : Int) (h2 : (Lit.int .u64 y0).wf = true) (h3 : (Lit.int .u64 y1).wf = true) (w : World) :
    Calls Try.prog 3 #[.agg #[.int .u64 x0, .int .u64 x1], .agg #[.int .u64 y0, .int .u64 y1]] w fun e w' => e = .returned (.bool true) ∧ Grown w w' := by
  have b0 := bounds_u64 h0
  have b1 := bounds_u64 h1
  have b2 := bounds_u64 h2
  have b3 := bounds_u64 h3
  have hc := ovB_comm x0 x1 y0 y1
  go_enter Try.func3, Try.ntmps3
  go_wp2_with (first | (go_at_call 6; refine (awake_any _).mono ?_; rintro e w' ⟨rfl, rfl⟩) | (go_at_call 7; refine (overlap_any _ _ _ _ (by omega) (by omega) (by omega) (by omega) _).mono ?_; rintro e w' ⟨rfl, rfl⟩) | (go_at_call 8; refine (roverlap_any _ _ _ _ (by omega) (by omega) (by omega) (by omega) _).mono ?_; rintro e w' ⟨rfl, rfl⟩))
  go_ret
  exact ⟨by simp, ((Grown.refl _).alloc _ _).alloc _ _⟩
end Go.Proofs.Ytflpfgbebjamfab
