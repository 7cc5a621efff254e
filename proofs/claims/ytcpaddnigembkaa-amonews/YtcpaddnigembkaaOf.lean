/- The document's calls names, Of, one, New and Old of layer 7. -/
import Derived.Test.YtcpaddnigembkaaNew
namespace Go.Proofs.Ytcpaddnigembkaa
open Go.RowKit
set_option linter.unusedVariables false
set_option linter.unusedSimpArgs false
def oCells : List Value := [.int .i64 73, .int .i64 84, .int .i64 74, .int .i64 85, .int .i64 75, .int .i64 86, .int .i64 76, .int .i64 87, .int .i64 77, .int .i64 88, .int .i64 78, .int .i64 89, .int .i64 79, .int .i64 90, .int .i64 80, .int .i64 91, .int .i64 81, .int .i64 92, .int .i64 82, .int .i64 93, .int .i64 83, .int .i64 94]
def oParts : List (Nat × Value) := [(0, .agg #[.int .i64 73, .int .i64 84]), (1, .agg #[.int .i64 74, .int .i64 85]), (2, .agg #[.int .i64 75, .int .i64 86]), (3, .agg #[.int .i64 76, .int .i64 87]), (4, .agg #[.int .i64 77, .int .i64 88]), (5, .agg #[.int .i64 78, .int .i64 89]), (6, .agg #[.int .i64 79, .int .i64 90]), (7, .agg #[.int .i64 80, .int .i64 91]), (8, .agg #[.int .i64 81, .int .i64 92]), (9, .agg #[.int .i64 82, .int .i64 93]), (10, .agg #[.int .i64 83, .int .i64 94])]
theorem info49 : (Try.prog.info? 49).map (fun i => (i.zero, i.size)) = some (some (.agg #[.int .i64 0, .int .i64 0]), 2) := by kernel_rfl
theorem fill_o : Instr.fill (fun i => some (i * 2, 2)) ((Array.range 22).map (#[Value.int .i64 0, Value.int .i64 0][· % (#[Value.int .i64 0, Value.int .i64 0] : Array Value).size]!)) oParts = some oCells.toArray := by kernel_rfl
theorem run_o (w : World) (ps : Array (Nat × Value)) (hp : ps.toList = oParts) : (Instr.buildSlice 47 11 ps).run Try.prog w = .ok (.slice (some ⟨w.heap.size, 0, none⟩) 11 11) (w.alloc (.cells oCells.toArray 49)) := by
  have h := info49
  cases hq : Try.prog.info? 49 with
  | none => simp [hq] at h
  | some i =>
    simp only [hq, Option.map_some, Option.some.injEq, Prod.mk.injEq] at h
    have hf := fill_o
    simp at hf
    simp [Instr.buildSlice, run_underlying Try.underlying47, sizeOf, typeInfo, hq, h.1, h.2, zeroValue, Value.cells, hp, hf, newRow]
theorem cell_o (w : World) (j : Nat) (v : Value) (h : oCells[j]? = some v) : (w.alloc (.cells oCells.toArray 49)).cell? ⟨w.heap.size, j, none⟩ = some v := by
  rw [World.cell?_alloc_new]
  simp [h]
theorem names_any (w : World) : Calls Try.prog 28 #[] w fun e w' => e = .returned (.slice (some ⟨w.heap.size, 0, none⟩) 11 11) ∧ w' = w.alloc (.cells oCells.toArray 49) := by
  go_enter Try.func28, Try.ntmps28
  go_wp2
  go_ret
  exact ⟨rfl, rfl⟩
def ofK (op : Int) : Int := if 73 ≤ op ∧ op ≤ 83 then op - 73 else if 84 ≤ op ∧ op ≤ 94 then op - 84 else -1
theorem oCells_lo (k : Nat) (h : k < 11) : oCells[2 * k]? = some (.int .i64 (73 + (k : Int))) := by
  match k, h with
  | 0, _ => rfl
  | 1, _ => rfl
  | 2, _ => rfl
  | 3, _ => rfl
  | 4, _ => rfl
  | 5, _ => rfl
  | 6, _ => rfl
  | 7, _ => rfl
  | 8, _ => rfl
  | 9, _ => rfl
  | 10, _ => rfl
theorem oCells_hi (k : Nat) (h : k < 11) : oCells[2 * k + 1]? = some (.int .i64 (84 + (k : Int))) := by
  match k, h with
  | 0, _ => rfl
  | 1, _ => rfl
  | 2, _ => rfl
  | 3, _ => rfl
  | 4, _ => rfl
  | 5, _ => rfl
  | 6, _ => rfl
  | 7, _ => rfl
  | 8, _ => rfl
  | 9, _ => rfl
  | 10, _ => rfl
theorem ret_pair {a b : Int} {c d : Bool} (h : a = b) (g : c = d) : Ending.returned (.tuple #[.int .i64 a, .bool c]) = .returned (.tuple #[.int .i64 b, .bool d]) := by rw [h, g]
theorem hidE {p : Prop} (h : p) : Hid p := h
theorem of_any (op : Int) (W w : World) (hw : Below W.heap.size W w) : Calls Try.prog 13 #[.int .i64 op] w fun e w' => e = .returned (.tuple #[.int .i64 (ofK op), .bool (wideB op)]) ∧ Below W.heap.size W w' := by
  go_enter Try.func13, Try.ntmps13
  go_wp2_with (go_at_call 28; refine (names_any _).mono ?_; rintro e w1 ⟨rfl, hw1⟩; replace hw1 := hidE hw1)
  have hlo : ∀ k, k < 11 → w1.cell? ⟨w.heap.size, 2 * k, none⟩ = some (.int .i64 (73 + (k : Int))) := fun k hk => by rw [hw1.out]; exact cell_o w _ _ (oCells_lo k hk)
  have hhi : ∀ k, k < 11 → w1.cell? ⟨w.heap.size, 2 * k + 1, none⟩ = some (.int .i64 (84 + (k : Int))) := fun k hk => by rw [hw1.out]; exact cell_o w _ _ (oCells_hi k hk)
  have hb1 : Below W.heap.size W w1 := by rw [hw1.out]; exact hw.alloc hw.size _
  have HL : Hid (∀ k : Nat, k < 11 → w1.cell? ⟨w.heap.size, 2 * k, none⟩ = some (.int .i64 (73 + (k : Int)))) := hlo
  have HH : Hid (∀ k : Nat, k < 11 → w1.cell? ⟨w.heap.size, 2 * k + 1, none⟩ = some (.int .i64 (84 + (k : Int)))) := hhi
  have HB : Hid (Below W.heap.size W w1) := hb1
  clear hlo hhi hb1 hw1 hw
  generalize w.heap.size = g at *
  go_wp2_with fail
  go_loopw [5] (fun i wr => ∃ k : Nat, k ≤ 11 ∧ i = .int .i64 k ∧ wr = w1 ∧ ∀ j : Nat, j < k → ¬ op = 73 + (j : Int) ∧ ¬ op = 84 + (j : Int)) (fun i _ => 11 - (intOf i).toNat)
  case atStart => exact ⟨0, by omega, rfl, rfl, fun j h => absurd h (Nat.not_lt_zero _)⟩
  case round =>
    obtain ⟨k, hk, rfl, rfl, hno⟩ := hrel
    have HN : Hid (∀ j : Nat, j < k → ¬ op = 73 + (j : Int) ∧ ¬ op = 84 + (j : Int)) := hno
    clear hno
    by_cases hlt : k < 11
    · have hlt1 : (k : Int) < 11 := by omega
      have c1 := HL.out k hlt
      have c2 := HH.out k hlt
      rw [Nat.mul_comm] at c1 c2
      by_cases e1 : 73 + (k : Int) = op
      · go_wp2_with fail
        go_ret2
        refine ⟨ret_pair ?_ ?_, HB.out⟩
        · unfold ofK; rw [if_pos (by omega)]; omega
        · unfold wideB; simp; omega
      · by_cases e2 : 84 + (k : Int) = op
        · go_wp2_with fail
          go_ret2
          refine ⟨ret_pair ?_ ?_, HB.out⟩
          · unfold ofK; rw [if_neg (by omega), if_pos (by omega)]; omega
          · unfold wideB; simp; omega
        · go_wp2_with fail
          go_roundw
          case rel => exact ⟨k + 1, by omega, by go_num, trivial, fun j hj => by
            by_cases h : j < k
            · exact HN.out j h
            · obtain rfl : j = k := by omega
              exact ⟨fun h => e1 h.symm, fun h => e2 h.symm⟩⟩
          case measure => simp [intOf]; omega
    · obtain rfl : k = 11 := by omega
      have hout : ¬ (73 ≤ op ∧ op ≤ 83) ∧ ¬ (84 ≤ op ∧ op ≤ 94) := by
        constructor
        · intro h
          exact (HN.out (op - 73).toNat (by omega)).1 (by omega)
        · intro h
          exact (HN.out (op - 84).toNat (by omega)).2 (by omega)
      clear HN
      have HO : Hid (¬ (73 ≤ op ∧ op ≤ 83) ∧ ¬ (84 ≤ op ∧ op ≤ 94)) := hout
      clear hout
      go_wp2_with fail
      go_ret2
      refine ⟨ret_pair ?_ ?_, HB.out⟩
      · unfold ofK; rw [if_neg HO.out.1, if_neg HO.out.2]
      · unfold wideB; rw [decide_eq_false HO.out.2]
end Go.Proofs.Ytcpaddnigembkaa
