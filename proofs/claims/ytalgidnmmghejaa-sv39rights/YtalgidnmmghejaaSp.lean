/- The small calls of package sv39: what an entry of a table says. -/
import Derived.Test.YtalgidnmmghejaaSn
import Derived.Deep.RegionHeld3
namespace Go.Proofs.Ytalgidnmmghejaa
open Go.RowKit
set_option linter.unusedVariables false
set_option linter.unusedSimpArgs false
set_option maxRecDepth 100000
theorem is_any (x : Nat) (i : Int) (hx : x < 18446744073709551616) (W w : World) (hb : Below W.heap.size W w) : Calls Try.prog 70 #[.int .u64 (x : Int), .int .i64 i] w fun e w' => e = .returned (.bool (tb x i)) ∧ Below W.heap.size W w' := by
  go_enter Try.func70, Try.ntmps70
  go_wp2_with fail
  refine (E.bit_all x i hx W _ (by assumption)).mono ?_
  rintro e w1 ⟨rfl, hb1⟩
  go_wp2_with fail
  go_ret
  exact ⟨rfl, by assumption⟩
theorem number_any (x : Nat) (hx : x < 18446744073709551616) (W w : World) (hb : Below W.heap.size W w) : Calls Try.prog 39 #[.int .u64 (x : Int)] w fun e w' => e = .returned (.int .u64 (numN x : Nat)) ∧ Below W.heap.size W w' := by
  go_enter Try.func39, Try.ntmps39
  go_wp2_with fail
  refine (E.get_all x 10 44 hx W _ (by assumption)).mono ?_
  rintro e w1 ⟨rfl, hb1⟩
  go_wp2_with fail
  go_ret
  exact ⟨rfl, by assumption⟩
theorem numberOf_any (x : Nat) (hx : x < 18446744073709551616) (W w : World) (hb : Below W.heap.size W w) : Calls Try.prog 57 #[.int .u64 (x : Int)] w fun e w' => e = .returned (.int .u64 (E.getN x 12 44 : Nat)) ∧ Below W.heap.size W w' := by
  go_enter Try.func57, Try.ntmps57
  go_wp2_with fail
  refine (E.get_all x 12 44 hx W _ (by assumption)).mono ?_
  rintro e w1 ⟨rfl, hb1⟩
  go_wp2_with fail
  go_ret
  exact ⟨rfl, by assumption⟩
theorem leads_any (x : Nat) (hx : x < 18446744073709551616) (W w : World) (hb : Below W.heap.size W w) : Calls Try.prog 37 #[.int .u64 (x : Int)] w fun e w' => e = .returned (.bool (leadsB x)) ∧ Below W.heap.size W w' := by
  have c1 : ∀ V, Below W.heap.size W V → Calls Try.prog 70 #[.int .u64 (x : Int), .int .i64 1] V fun e w' => e = .returned (.bool (tb x 1)) ∧ Below W.heap.size W w' := fun V h => is_any x 1 hx W V h
  have c3 : ∀ V, Below W.heap.size W V → Calls Try.prog 70 #[.int .u64 (x : Int), .int .i64 3] V fun e w' => e = .returned (.bool (tb x 3)) ∧ Below W.heap.size W w' := fun V h => is_any x 3 hx W V h
  unfold leadsB
  generalize tb x 1 = r at *
  generalize tb x 3 = y at *
  cases r
  · go_enter Try.func37, Try.ntmps37
    go_wp2_with fail
    refine (c1 _ (by assumption)).mono ?_
    rintro e w1 ⟨rfl, hb1⟩
    go_wp2_with fail
    refine (c3 _ (by assumption)).mono ?_
    rintro e w2 ⟨rfl, hb2⟩
    go_wp2_with fail
    go_ret
    exact ⟨by simp, by assumption⟩
  · go_enter Try.func37, Try.ntmps37
    go_wp2_with fail
    refine (c1 _ (by assumption)).mono ?_
    rintro e w1 ⟨rfl, hb1⟩
    go_wp2_with fail
    go_ret
    exact ⟨by simp, by assumption⟩
theorem entryPlace_any (t va l : Nat) (ht : t < 17592186044416) (hva : va < 18446744073709551616) (hl : l ≤ 2) (W w : World) (hb : Below W.heap.size W w) : Calls Try.prog 35 #[.int .u64 (t : Int), .int .u64 (va : Int), .int .i64 (l : Int)] w fun e w' => e = .returned (.int .u64 (plcN t va l : Nat)) ∧ Below W.heap.size W w' := by
  have hc : ((12 + 9 * l : Nat) : Int) = 12 + 9 * (l : Int) := by omega
  have c1 : ∀ V, Below W.heap.size W V → Calls Try.prog 33 #[.int .u64 (va : Int), .int .i64 (12 + 9 * (l : Int)), .int .i64 9] V fun e w' => e = .returned (.int .u64 (E.getN va (12 + 9 * l : Nat) 9 : Nat)) ∧ Below W.heap.size W w' := fun V h => by
    have := E.get_all va (12 + 9 * (l : Int)) 9 hva W V h
    rw [← hc] at this ⊢
    exact this
  have hg := getN9_lt va (12 + 9 * l) (by omega)
  unfold plcN
  generalize E.getN va (12 + 9 * l : Nat) 9 = g at *
  clear hc
  go_enter Try.func35, Try.ntmps35
  go_wp2_with fail
  refine (c1 _ (by assumption)).mono ?_
  rintro e w1 ⟨rfl, hb1⟩
  go_wp2_with fail
  go_ret
  exact ⟨ret_int (show ((t : Int) * 4096 + 8 * (g : Int)) = ((t * 4096 + 8 * g : Nat) : Int) from by omega), by assumption⟩
theorem pageFault_any (k : Nat) (W w : World) (hb : Below W.heap.size W w) : Calls Try.prog 32 #[.int .i64 (k : Int)] w fun e w' => e = .returned (.agg (resC (badR k))) ∧ Below W.heap.size W w' := by
  go_enter Try.func32, Try.ntmps32
  go_wp2_with fail
  refine bodyPost_ret (v := .agg #[.int .u64 0, .bool true, .bool true, .int .i64 (k : Nat)]) (by simp [results, Try.results32, go_sem]) rfl ⟨rfl, ?_⟩
  exact hb.alloc hb.size _
theorem readsV3 (u a d : Bool) (w : World) : E.ReadsV (w.alloc (.cells #[.bool u, .bool a, .bool d] 4)) (.slice (some ⟨w.heap.size, 0, none⟩) 3 3) 3 (fun i => .bool (if i = 0 then u else if i = 1 then a else d)) := by
  refine .inr ⟨w.heap.size, 0, 3, rfl, fun i hi => ?_⟩
  have hh := heap_alloc_new w (.cells #[.bool u, .bool a, .bool d] 4)
  rcases (show i = 0 ∨ i = 1 ∨ i = 2 from by omega) with rfl | rfl | rfl <;> exact cellOf hh _ _ rfl
theorem any3 (u a d : Bool) (W w : World) (hb : Below W.heap.size W w) : Calls Try.prog 71 #[.slice (some ⟨w.heap.size, 0, none⟩) 3 3] (w.alloc (.cells #[.bool u, .bool a, .bool d] 4)) fun e w' => e = .returned (.bool (u || a || d)) ∧ Below W.heap.size W w' := by
  refine (E.any_any (fun i => if i = 0 then u else if i = 1 then a else d) 3 _ (by omega) _ (readsV3 u a d w)).mono ?_
  rintro e w' ⟨rfl, hw⟩
  refine ⟨ret_bool ?_, by rw [hw]; exact hb.alloc hb.size _⟩
  cases u <;> cases a <;> cases d <;> decide
theorem odd_any (x : Nat) (hx : x < 18446744073709551616) (W w : World) (hb : Below W.heap.size W w) : Calls Try.prog 36 #[.int .u64 (x : Int)] w fun e w' => e = .returned (.bool (oddB x)) ∧ Below W.heap.size W w' := by
  have c0 : ∀ V, Below W.heap.size W V → Calls Try.prog 70 #[.int .u64 (x : Int), .int .i64 0] V fun e w' => e = .returned (.bool (tb x 0)) ∧ Below W.heap.size W w' := fun V h => is_any x 0 hx W V h
  have c1 : ∀ V, Below W.heap.size W V → Calls Try.prog 70 #[.int .u64 (x : Int), .int .i64 1] V fun e w' => e = .returned (.bool (tb x 1)) ∧ Below W.heap.size W w' := fun V h => is_any x 1 hx W V h
  have c2 : ∀ V, Below W.heap.size W V → Calls Try.prog 70 #[.int .u64 (x : Int), .int .i64 2] V fun e w' => e = .returned (.bool (tb x 2)) ∧ Below W.heap.size W w' := fun V h => is_any x 2 hx W V h
  have c4 : ∀ V, Below W.heap.size W V → Calls Try.prog 70 #[.int .u64 (x : Int), .int .i64 4] V fun e w' => e = .returned (.bool (tb x 4)) ∧ Below W.heap.size W w' := fun V h => is_any x 4 hx W V h
  have c6 : ∀ V, Below W.heap.size W V → Calls Try.prog 70 #[.int .u64 (x : Int), .int .i64 6] V fun e w' => e = .returned (.bool (tb x 6)) ∧ Below W.heap.size W w' := fun V h => is_any x 6 hx W V h
  have c7 : ∀ V, Below W.heap.size W V → Calls Try.prog 70 #[.int .u64 (x : Int), .int .i64 7] V fun e w' => e = .returned (.bool (tb x 7)) ∧ Below W.heap.size W w' := fun V h => is_any x 7 hx W V h
  have cl : ∀ V, Below W.heap.size W V → Calls Try.prog 37 #[.int .u64 (x : Int)] V fun e w' => e = .returned (.bool (leadsB x)) ∧ Below W.heap.size W w' := fun V h => leads_any x hx W V h
  have cg : ∀ V, Below W.heap.size W V → Calls Try.prog 33 #[.int .u64 (x : Int), .int .i64 54, .int .i64 10] V fun e w' => e = .returned (.int .u64 (E.getN x 54 10 : Nat)) ∧ Below W.heap.size W w' := fun V h => E.get_all x 54 10 hx W V h
  unfold oddB
  generalize leadsB x = L at *
  generalize tb x 0 = v at *
  generalize tb x 1 = r at *
  generalize tb x 2 = y at *
  generalize tb x 4 = u at *
  generalize tb x 6 = a at *
  generalize tb x 7 = d at *
  generalize E.getN x 54 10 = g at *
  cases v
  · go_enter Try.func36, Try.ntmps36
    go_wp2_with fail
    refine (c0 _ (by assumption)).mono ?_
    rintro e w1 ⟨rfl, hb1⟩
    go_wp2_with fail
    go_ret
    exact ⟨by simp, by assumption⟩
  by_cases hg : g = 0
  case neg =>
    have h2 : ((g : Int) == 0) = false := by simp; omega
    have h3 : ¬ (g : Int) = 0 := by omega
    have h4 : (g == 0) = false := by simp [hg]
    have H4 : Hid ((g == 0) = false) := h4
    clear h4 hg
    go_enter Try.func36, Try.ntmps36
    go_wp2_with fail
    refine (c0 _ (by assumption)).mono ?_
    rintro e w1 ⟨rfl, hb1⟩
    go_wp2_with fail
    refine (cg _ (by assumption)).mono ?_
    rintro e w2 ⟨rfl, hb2⟩
    go_wp2_with fail
    go_ret
    exact ⟨by simp [H4.out], by assumption⟩
  subst hg
  cases y
  · cases L
    · go_enter Try.func36, Try.ntmps36
      go_wp2_with fail
      refine (c0 _ (by assumption)).mono ?_
      rintro e w1 ⟨rfl, hb1⟩
      go_wp2_with fail
      refine (cg _ (by assumption)).mono ?_
      rintro e w2 ⟨rfl, hb2⟩
      go_wp2_with fail
      refine (c2 _ (by assumption)).mono ?_
      rintro e w3 ⟨rfl, hb3⟩
      go_wp2_with fail
      refine (cl _ (by assumption)).mono ?_
      rintro e w4 ⟨rfl, hb4⟩
      go_wp2_with fail
      refine (c4 _ (by assumption)).mono ?_
      rintro e w5 ⟨rfl, hb5⟩
      go_wp2_with fail
      refine (c6 _ (by assumption)).mono ?_
      rintro e w6 ⟨rfl, hb6⟩
      go_wp2_with fail
      refine (c7 _ (by assumption)).mono ?_
      rintro e w7 ⟨rfl, hb7⟩
      go_wp2_with fail
      refine (any3 u a d W _ (by assumption)).mono ?_
      rintro e w8 ⟨rfl, hb8⟩
      go_wp2_with fail
      go_ret
      exact ⟨by simp, by assumption⟩
    · go_enter Try.func36, Try.ntmps36
      go_wp2_with fail
      refine (c0 _ (by assumption)).mono ?_
      rintro e w1 ⟨rfl, hb1⟩
      go_wp2_with fail
      refine (cg _ (by assumption)).mono ?_
      rintro e w2 ⟨rfl, hb2⟩
      go_wp2_with fail
      refine (c2 _ (by assumption)).mono ?_
      rintro e w3 ⟨rfl, hb3⟩
      go_wp2_with fail
      refine (cl _ (by assumption)).mono ?_
      rintro e w4 ⟨rfl, hb4⟩
      go_wp2_with fail
      go_ret
      exact ⟨by simp, by assumption⟩
  cases r
  · go_enter Try.func36, Try.ntmps36
    go_wp2_with fail
    refine (c0 _ (by assumption)).mono ?_
    rintro e w1 ⟨rfl, hb1⟩
    go_wp2_with fail
    refine (cg _ (by assumption)).mono ?_
    rintro e w2 ⟨rfl, hb2⟩
    go_wp2_with fail
    refine (c2 _ (by assumption)).mono ?_
    rintro e w3 ⟨rfl, hb3⟩
    go_wp2_with fail
    refine (c1 _ (by assumption)).mono ?_
    rintro e w4 ⟨rfl, hb4⟩
    go_wp2_with fail
    go_ret
    exact ⟨by simp, by assumption⟩
  · cases L
    · go_enter Try.func36, Try.ntmps36
      go_wp2_with fail
      refine (c0 _ (by assumption)).mono ?_
      rintro e w1 ⟨rfl, hb1⟩
      go_wp2_with fail
      refine (cg _ (by assumption)).mono ?_
      rintro e w2 ⟨rfl, hb2⟩
      go_wp2_with fail
      refine (c2 _ (by assumption)).mono ?_
      rintro e w3 ⟨rfl, hb3⟩
      go_wp2_with fail
      refine (c1 _ (by assumption)).mono ?_
      rintro e w4 ⟨rfl, hb4⟩
      go_wp2_with fail
      refine (cl _ (by assumption)).mono ?_
      rintro e w5 ⟨rfl, hb5⟩
      go_wp2_with fail
      refine (c4 _ (by assumption)).mono ?_
      rintro e w6 ⟨rfl, hb6⟩
      go_wp2_with fail
      refine (c6 _ (by assumption)).mono ?_
      rintro e w7 ⟨rfl, hb7⟩
      go_wp2_with fail
      refine (c7 _ (by assumption)).mono ?_
      rintro e w8 ⟨rfl, hb8⟩
      go_wp2_with fail
      refine (any3 u a d W _ (by assumption)).mono ?_
      rintro e w9 ⟨rfl, hb9⟩
      go_wp2_with fail
      go_ret
      exact ⟨by simp, by assumption⟩
    · go_enter Try.func36, Try.ntmps36
      go_wp2_with fail
      refine (c0 _ (by assumption)).mono ?_
      rintro e w1 ⟨rfl, hb1⟩
      go_wp2_with fail
      refine (cg _ (by assumption)).mono ?_
      rintro e w2 ⟨rfl, hb2⟩
      go_wp2_with fail
      refine (c2 _ (by assumption)).mono ?_
      rintro e w3 ⟨rfl, hb3⟩
      go_wp2_with fail
      refine (c1 _ (by assumption)).mono ?_
      rintro e w4 ⟨rfl, hb4⟩
      go_wp2_with fail
      refine (cl _ (by assumption)).mono ?_
      rintro e w5 ⟨rfl, hb5⟩
      go_wp2_with fail
      go_ret
      exact ⟨by simp, by assumption⟩
end Go.Proofs.Ytalgidnmmghejaa
