/- The statement on sorts: names, widths and sorts are what the document says, and an operation is found by its name. -/
import Derived.Test.YtnedhfdejfjfiaaDoorWidth
import Derived.Test.YtnedhfdejfjfiaaDoorBackW
import Derived.Test.YtnedhfdejfjfiaaDoorDocRowsW
import Derived.Deep.RegionHeld3
namespace Go.Proofs.YtnedhfdejfjfiaaDoor
open Go.RowKit
set_option linter.unusedVariables false
set_option linter.unusedSimpArgs false
theorem names_one : (List.range 98).all (fun i => (List.range 98).all fun j => i == j || !(dNames.getD i [] == dNames.getD j [])) = true := by decide +kernel
theorem name_inj (i j : Nat) (hi : i < 98) (hj : j < 98) (h : dName i = dName j) : i = j := by
  have h1 := List.all_eq_true.1 names_one i (List.mem_range.2 hi)
  have h2 := List.all_eq_true.1 h1 j (List.mem_range.2 hj)
  have h3 : dNames.getD i [] = dNames.getD j [] := by
    unfold dName at h
    have := congrArg (fun b : ByteArray => b.data.toList) h
    simpa using this
  rw [h3] at h2
  simpa using h2
/-- an operation's width -/
def widthN (o : Nat) : Int := if formsT.getD o 0 = 4 then 2 ^ (dF3 o % 4) else if formsT.getD o 0 = 6 ∨ formsT.getD o 0 = 14 ∨ formsT.getD o 0 = 15 then 2 ^ (dF3 o) else 0
theorem f3_row : ∀ o, o < 99 → formsT.getD o 0 = 4 ∨ formsT.getD o 0 = 6 ∨ formsT.getD o 0 = 14 ∨ formsT.getD o 0 = 15 → wordsT.getD o 0 / 4096 % 8 = dF3 o ∧ dF3 o < 8 ∧ (formsT.getD o 0 ≠ 4 → dF3 o < 4) := by decide +kernel
/-- both widths are one number -/
theorem widths (op : Int) : ∃ z : Int, (∀ w, Tabs w → Calls Tryd.prog 20 #[.int .i64 op] w fun e w' => e = .returned (.int .i64 z) ∧ w' = w) ∧ (∀ w, Calls Tryd.prog 21 #[.int .i64 op] w fun e w' => e = .returned (.int .i64 z) ∧ Below w.heap.size w w') := by
  by_cases h : 1 ≤ op ∧ op ≤ 98
  · obtain ⟨o, rfl⟩ : ∃ o : Nat, op = o := ⟨op.toNat, by omega⟩
    have h1 : 1 ≤ o := by omega
    have h2 : o < 99 := by omega
    have hfo := formI_yes o h1 h2
    have hO := fun w => of_op o h1 h2 w
    have hg := rows_forms o h2 h1
    by_cases h4 : formsT.getD o 0 = 4
    · obtain ⟨r1, r2, r3⟩ := f3_row o h2 (.inl h4)
      rw [h4] at hfo hg
      rw [show dForm o = 5 from hg] at hO
      generalize dF3 o = q at *
      have hq : q = 0 ∨ q = 1 ∨ q = 2 ∨ q = 3 ∨ q = 4 ∨ q = 5 ∨ q = 6 ∨ q = 7 := by omega
      rcases hq with rfl | rfl | rfl | rfl | rfl | rfl | rfl | rfl
      · exact ⟨_, fun w t => width_load0 o h2 hfo r1 w t, fun w => dwidth_load0 _ _ _ _ w hO⟩
      · exact ⟨_, fun w t => width_load1 o h2 hfo r1 w t, fun w => dwidth_load1 _ _ _ _ w hO⟩
      · exact ⟨_, fun w t => width_load2 o h2 hfo r1 w t, fun w => dwidth_load2 _ _ _ _ w hO⟩
      · exact ⟨_, fun w t => width_load3 o h2 hfo r1 w t, fun w => dwidth_load3 _ _ _ _ w hO⟩
      · exact ⟨_, fun w t => width_load4 o h2 hfo r1 w t, fun w => dwidth_load4 _ _ _ _ w hO⟩
      · exact ⟨_, fun w t => width_load5 o h2 hfo r1 w t, fun w => dwidth_load5 _ _ _ _ w hO⟩
      · exact ⟨_, fun w t => width_load6 o h2 hfo r1 w t, fun w => dwidth_load6 _ _ _ _ w hO⟩
      · exact ⟨_, fun w t => width_load7 o h2 hfo r1 w t, fun w => dwidth_load7 _ _ _ _ w hO⟩
    by_cases h6 : formsT.getD o 0 = 6
    · obtain ⟨r1, r2, r3⟩ := f3_row o h2 (.inr (.inl h6))
      have r4 := r3 h4
      rw [h6] at hfo hg
      rw [show dForm o = 6 from hg] at hO
      generalize dF3 o = q at *
      have hq : q = 0 ∨ q = 1 ∨ q = 2 ∨ q = 3 := by omega
      rcases hq with rfl | rfl | rfl | rfl
      · exact ⟨_, fun w t => width_at6_0 o h2 hfo r1 w t, fun w => dwidth_at6_0 _ _ _ _ w hO⟩
      · exact ⟨_, fun w t => width_at6_1 o h2 hfo r1 w t, fun w => dwidth_at6_1 _ _ _ _ w hO⟩
      · exact ⟨_, fun w t => width_at6_2 o h2 hfo r1 w t, fun w => dwidth_at6_2 _ _ _ _ w hO⟩
      · exact ⟨_, fun w t => width_at6_3 o h2 hfo r1 w t, fun w => dwidth_at6_3 _ _ _ _ w hO⟩
    by_cases h14 : formsT.getD o 0 = 14
    · obtain ⟨r1, r2, r3⟩ := f3_row o h2 (.inr (.inr (.inl h14)))
      have r4 := r3 h4
      rw [h14] at hfo hg
      rw [show dForm o = 14 from hg] at hO
      generalize dF3 o = q at *
      have hq : q = 0 ∨ q = 1 ∨ q = 2 ∨ q = 3 := by omega
      rcases hq with rfl | rfl | rfl | rfl
      · exact ⟨_, fun w t => width_at14_0 o h2 hfo r1 w t, fun w => dwidth_at14_0 _ _ _ _ w hO⟩
      · exact ⟨_, fun w t => width_at14_1 o h2 hfo r1 w t, fun w => dwidth_at14_1 _ _ _ _ w hO⟩
      · exact ⟨_, fun w t => width_at14_2 o h2 hfo r1 w t, fun w => dwidth_at14_2 _ _ _ _ w hO⟩
      · exact ⟨_, fun w t => width_at14_3 o h2 hfo r1 w t, fun w => dwidth_at14_3 _ _ _ _ w hO⟩
    by_cases h15 : formsT.getD o 0 = 15
    · obtain ⟨r1, r2, r3⟩ := f3_row o h2 (.inr (.inr (.inr h15)))
      have r4 := r3 h4
      rw [h15] at hfo hg
      rw [show dForm o = 15 from hg] at hO
      generalize dF3 o = q at *
      have hq : q = 0 ∨ q = 1 ∨ q = 2 ∨ q = 3 := by omega
      rcases hq with rfl | rfl | rfl | rfl
      · exact ⟨_, fun w t => width_at15_0 o h2 hfo r1 w t, fun w => dwidth_at15_0 _ _ _ _ w hO⟩
      · exact ⟨_, fun w t => width_at15_1 o h2 hfo r1 w t, fun w => dwidth_at15_1 _ _ _ _ w hO⟩
      · exact ⟨_, fun w t => width_at15_2 o h2 hfo r1 w t, fun w => dwidth_at15_2 _ _ _ _ w hO⟩
      · exact ⟨_, fun w t => width_at15_3 o h2 hfo r1 w t, fun w => dwidth_at15_3 _ _ _ _ w hO⟩
    · refine ⟨0, fun w t => width_no (o : Nat) (by rw [hfo]; exact h4) (by rw [hfo]; exact h6) (by rw [hfo]; exact h14) (by rw [hfo]; exact h15) w t, fun w => dwidth_no _ (dForm o : Nat) _ _ _ _ ?_ ?_ w hO⟩
      · rw [hg]; unfold dF; split <;> (try split) <;> omega
      · have hd : dF (formsT.getD o 0) ≠ 6 ∧ dF (formsT.getD o 0) ≠ 14 ∧ dF (formsT.getD o 0) ≠ 15 := by
          unfold dF; split <;> (try split) <;> omega
        rw [hg, Bool.eq_false_iff]
        intro hc
        generalize dF (formsT.getD o 0) = g at *
        simp at hc
        omega
  · have hfo := formI_no op h
    exact ⟨0, fun w t => width_no op (by rw [hfo]; decide) (by rw [hfo]; decide) (by rw [hfo]; decide) (by rw [hfo]; decide) w t, fun w => dwidth_no op 0 _ _ _ _ (by decide) (by decide) w (fun w => of_no op h w)⟩
/-- an operation's row, known or not -/
theorem of_any (op : Int) : ∃ (g : Nat) (cc f3 f7 : Int), (∀ w, Calls Tryd.prog 16 #[.int .i64 op] w fun e w' => e = .returned (.agg #[.string (nameI op), .int .i64 (g : Nat), .int .i64 cc, .int .i64 f3, .int .i64 f7]) ∧ Below w.heap.size w w') ∧ g = dF (formI op) ∧ formI op < 17 := by
  by_cases h : 1 ≤ op ∧ op ≤ 98
  · obtain ⟨o, rfl⟩ : ∃ o : Nat, op = o := ⟨op.toNat, by omega⟩
    have h1 : 1 ≤ o := by omega
    have h2 : o < 99 := by omega
    have hn : nameI (o : Nat) = dName (o - 1) := by unfold nameI; rw [if_pos h, Int.toNat_natCast]
    refine ⟨dForm o, (dCode o : Nat), (dF3 o : Nat), (dF7 o : Nat), fun w => ?_, ?_, formI_lt _⟩
    · rw [hn]; exact of_op o h1 h2 w
    · rw [formI_yes o h1 h2]; exact rows_forms o h2 h1
  · have hn : nameI op = ⟨#[]⟩ := by unfold nameI; rw [if_neg h]
    refine ⟨0, 0, 0, 0, fun w => ?_, ?_, formI_lt _⟩
    · rw [hn]; exact of_no op h w
    · rw [formI_no op h]; rfl
/-- where a name is found -/
theorem found (s : ByteArray) : (∃ m, m < 98 ∧ dName m = s ∧ ∀ j, j < 98 → j ≠ m → dName j ≠ s) ∨ ∀ j, j < 98 → dName j ≠ s := by
  by_cases h : ∃ m, m < 98 ∧ dName m = s
  · obtain ⟨m, hm, hs⟩ := h
    exact .inl ⟨m, hm, hs, fun j hj hne he => hne (name_inj j m hj hm (he.trans hs.symm))⟩
  · exact .inr fun j hj he => h ⟨j, hj, he⟩
/-- what lies in the world as the statement looks names up -/
structure SortIn (W wr : World) (b c : Nat) (row : Array Value) : Prop where
  below : Below W.heap.size W wr
  row5 : wr.heap[c]? = some (.cells row 39 (0, 0))
  rows : RowsAt wr b
  ltb : b < wr.heap.size
theorem SortIn.step {W w1 w2 : World} {b c : Nat} {row : Array Value} (h : SortIn W w1 b c row) (hb : Below w1.heap.size w1 w2) : SortIn W w2 b c row := ⟨h.below.trans (hb.mono h.below.size), below_box h.row5 hb, h.rows.below hb h.ltb, Nat.lt_of_lt_of_le h.ltb hb.size⟩
end Go.Proofs.YtnedhfdejfjfiaaDoor
