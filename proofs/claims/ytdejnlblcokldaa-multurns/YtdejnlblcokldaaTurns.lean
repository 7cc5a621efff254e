/- The statements on turned products, and on quotients, rests and the number, of layer 6 return true for every input. -/
import Derived.Test.YtdejnlblcokldaaDo
import Derived.Laws.NewBlocks
import Derived.Deep.DeepCutAuto
namespace Go.Proofs.Ytdejnlblcokldaa
open Go.RowKit
set_option linter.unusedVariables false
set_option linter.unusedSimpArgs false
theorem hs_turn (a b : Nat) : hsV a b true = hsV b a true := by
  unfold hsV
  rw [Nat.mul_comm b a]
  simp only [true_and]
  congr 1
  omega
set_option maxHeartbeats 800000 in
theorem turns_core (a b : Nat) (ha : a < 18446744073709551616) (hb : b < 18446744073709551616) (W w : World) (hw : Below W.heap.size W w) : Calls Try.prog 7 #[.int .u64 (a : Int), .int .u64 (b : Int)] w fun e w' => e = .returned (.bool true) ∧ Below W.heap.size W w' := by
  have hlt : a * b / 18446744073709551616 < 18446744073709551616 := by
    rw [Nat.div_lt_iff_lt_mul (by decide)]; exact Nat.mul_lt_mul'' ha hb
  have h1 : ∀ w, Calls Try.prog 11 #[.int .u64 (a : Int), .int .u64 (b : Int)] w fun e w' => e = .returned (.int .u64 ((a * b / 18446744073709551616 : Nat) : Int)) ∧ w' = w := fun w => high_any a b ha hb w
  have h2 : ∀ w, Calls Try.prog 11 #[.int .u64 (b : Int), .int .u64 (a : Int)] w fun e w' => e = .returned (.int .u64 ((a * b / 18446744073709551616 : Nat) : Int)) ∧ w' = w := fun w => by rw [Nat.mul_comm a b]; exact high_any b a hb ha w
  have h3 : ∀ w, Calls Try.prog 13 #[.int .u64 (a : Int), .int .u64 (b : Int), .bool true] w fun e w' => e = .returned (.int .u64 ((hsV a b true : Nat) : Int)) ∧ w' = w := fun w => hsigned_any a b true ha hb w
  have h4 : ∀ w, Calls Try.prog 13 #[.int .u64 (b : Int), .int .u64 (a : Int), .bool true] w fun e w' => e = .returned (.int .u64 ((hsV a b true : Nat) : Int)) ∧ w' = w := fun w => by rw [hs_turn a b]; exact hsigned_any b a true hb ha w
  have h5 : ∀ w, Calls Try.prog 13 #[.int .u64 (a : Int), .int .u64 (b : Int), .bool false] w fun e w' => e = .returned (.int .u64 ((hsV a b false : Nat) : Int)) ∧ w' = w := fun w => hsigned_any a b false ha hb w
  have v1 := hsV_eq a b true
  have v2 := hsV_eq a b false
  have l1 := hsV_lt a b true
  have l2 := hsV_lt a b false
  generalize hsV a b true = vt at *
  generalize hsV a b false = vf at *
  generalize a * b / 18446744073709551616 = h at *
  have hwa := numI_eq a ha
  have hwb := numI_eq b hb
  generalize numI a = na at *
  generalize numI b = nb at *
  simp only [true_and, Bool.false_eq_true, false_and, if_false] at v1 v2
  have e1 : na < 0 → IntKind.u64.wrap ((h : Int) - b) = vf := by
    intro c; rw [wrap_u64, v2, if_pos c]; omega
  have e2 : ¬ na < 0 → h = vf := by
    intro c; rw [if_neg c] at v2; omega
  have e3 : nb < 0 → IntKind.u64.wrap ((vf : Int) - a) = vt := by
    intro c; rw [wrap_u64, v1, if_pos c]; omega
  have e4 : ¬ nb < 0 → vf = vt := by
    intro c; rw [if_neg c] at v1; omega
  clear v1 v2
  by_cases c1 : na < 0
  · have f1 := e1 c1
    clear e1 e2
    by_cases c2 : nb < 0
    · have f2 := e3 c2
      clear e3 e4
      go_enter Try.func7, Try.ntmps7
      go_wp2_with (go_at_call 8; refine (awake_any _).mono ?_; rintro e w1 ⟨rfl, rfl⟩)
      refine (h1 _).mono ?_
      rintro e w2 ⟨rfl, hx⟩; rw [hx]; clear hx
      go_wp2_with fail
      refine (h2 _).mono ?_
      rintro e w2 ⟨rfl, hx⟩; rw [hx]; clear hx
      go_wp2_with fail
      refine (h3 _).mono ?_
      rintro e w2 ⟨rfl, hx⟩; rw [hx]; clear hx
      go_wp2_with fail
      refine (h4 _).mono ?_
      rintro e w2 ⟨rfl, hx⟩; rw [hx]; clear hx
      go_wp2_with fail
      refine (h1 _).mono ?_
      rintro e w2 ⟨rfl, hx⟩; rw [hx]; clear hx
      go_wp2_with fail
      refine (h5 _).mono ?_
      rintro e w2 ⟨rfl, hx⟩; rw [hx]; clear hx
      go_wp2_with fail
      refine (h3 _).mono ?_
      rintro e w2 ⟨rfl, hx⟩; rw [hx]; clear hx
      go_wp2_with fail
      go_ret
      exact ⟨rfl, hw⟩
    · obtain rfl := e4 c2
      clear e3 e4
      go_enter Try.func7, Try.ntmps7
      go_wp2_with (go_at_call 8; refine (awake_any _).mono ?_; rintro e w1 ⟨rfl, rfl⟩)
      refine (h1 _).mono ?_
      rintro e w2 ⟨rfl, hx⟩; rw [hx]; clear hx
      go_wp2_with fail
      refine (h2 _).mono ?_
      rintro e w2 ⟨rfl, hx⟩; rw [hx]; clear hx
      go_wp2_with fail
      refine (h3 _).mono ?_
      rintro e w2 ⟨rfl, hx⟩; rw [hx]; clear hx
      go_wp2_with fail
      refine (h4 _).mono ?_
      rintro e w2 ⟨rfl, hx⟩; rw [hx]; clear hx
      go_wp2_with fail
      refine (h1 _).mono ?_
      rintro e w2 ⟨rfl, hx⟩; rw [hx]; clear hx
      go_wp2_with fail
      refine (h5 _).mono ?_
      rintro e w2 ⟨rfl, hx⟩; rw [hx]; clear hx
      go_wp2_with fail
      refine (h3 _).mono ?_
      rintro e w2 ⟨rfl, hx⟩; rw [hx]; clear hx
      go_wp2_with fail
      go_ret
      exact ⟨rfl, hw⟩
  · obtain rfl := e2 c1
    clear e1 e2
    by_cases c2 : nb < 0
    · have f2 := e3 c2
      clear e3 e4
      go_enter Try.func7, Try.ntmps7
      go_wp2_with (go_at_call 8; refine (awake_any _).mono ?_; rintro e w1 ⟨rfl, rfl⟩)
      refine (h1 _).mono ?_
      rintro e w2 ⟨rfl, hx⟩; rw [hx]; clear hx
      go_wp2_with fail
      refine (h2 _).mono ?_
      rintro e w2 ⟨rfl, hx⟩; rw [hx]; clear hx
      go_wp2_with fail
      refine (h3 _).mono ?_
      rintro e w2 ⟨rfl, hx⟩; rw [hx]; clear hx
      go_wp2_with fail
      refine (h4 _).mono ?_
      rintro e w2 ⟨rfl, hx⟩; rw [hx]; clear hx
      go_wp2_with fail
      refine (h1 _).mono ?_
      rintro e w2 ⟨rfl, hx⟩; rw [hx]; clear hx
      go_wp2_with fail
      refine (h5 _).mono ?_
      rintro e w2 ⟨rfl, hx⟩; rw [hx]; clear hx
      go_wp2_with fail
      refine (h3 _).mono ?_
      rintro e w2 ⟨rfl, hx⟩; rw [hx]; clear hx
      go_wp2_with fail
      go_ret
      exact ⟨rfl, hw⟩
    · obtain rfl := e4 c2
      clear e3 e4
      go_enter Try.func7, Try.ntmps7
      go_wp2_with (go_at_call 8; refine (awake_any _).mono ?_; rintro e w1 ⟨rfl, rfl⟩)
      refine (h1 _).mono ?_
      rintro e w2 ⟨rfl, hx⟩; rw [hx]; clear hx
      go_wp2_with fail
      refine (h2 _).mono ?_
      rintro e w2 ⟨rfl, hx⟩; rw [hx]; clear hx
      go_wp2_with fail
      refine (h3 _).mono ?_
      rintro e w2 ⟨rfl, hx⟩; rw [hx]; clear hx
      go_wp2_with fail
      refine (h4 _).mono ?_
      rintro e w2 ⟨rfl, hx⟩; rw [hx]; clear hx
      go_wp2_with fail
      refine (h1 _).mono ?_
      rintro e w2 ⟨rfl, hx⟩; rw [hx]; clear hx
      go_wp2_with fail
      refine (h5 _).mono ?_
      rintro e w2 ⟨rfl, hx⟩; rw [hx]; clear hx
      go_wp2_with fail
      refine (h3 _).mono ?_
      rintro e w2 ⟨rfl, hx⟩; rw [hx]; clear hx
      go_wp2_with fail
      go_ret
      exact ⟨rfl, hw⟩
theorem turns_walk (W : World) (a0 : Int) (w0 : (Lit.int .u64 a0).wf = true) (a1 : Int) (w1 : (Lit.int .u64 a1).wf = true) :
    Calls Try.prog 7 #[.int .u64 a0, .int .u64 a1] W fun e w' => e = .returned (.bool true) ∧ Below W.heap.size W w' := by
  have b0 := bounds_u64 w0
  have b1 := bounds_u64 w1
  obtain ⟨x, rfl⟩ : ∃ x : Nat, a0 = x := ⟨a0.toNat, by omega⟩
  obtain ⟨y, rfl⟩ : ∃ y : Nat, a1 = y := ⟨a1.toNat, by omega⟩
  exact turns_core x y (by omega) (by omega) W W (Below.refl _ _)
end Go.Proofs.Ytdejnlblcokldaa
