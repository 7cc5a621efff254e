/- The document's call Of of layer 8: a register's row. -/
import Derived.Test.YtalgidnmmghejaaDRows
namespace Go.Proofs.Ytalgidnmmghejaa.E
open Go.RowKit
set_option linter.unusedVariables false
set_option linter.unusedSimpArgs false
theorem box4_facts {t : TypeId} {w : World} {b : Nat} {x0 x1 x2 x3 : Value} (h : Box t w b #[x0, x1, x2, x3]) : w.cell? ⟨b, 0, none⟩ = some x0 ∧ w.cell? ⟨b, 1, none⟩ = some x1 ∧ w.cell? ⟨b, 2, none⟩ = some x2 ∧ w.cell? ⟨b, 3, none⟩ = some x3 := ⟨h.cell 0 _ rfl, h.cell 1 _ rfl, h.cell 2 _ rfl, h.cell 3 _ rfl⟩
theorem box4_put {t : TypeId} {w : World} {b : Nat} {x0 x1 x2 x3 : Value} (h : Box t w b #[x0, x1, x2, x3]) (y0 y1 y2 y3 : Value) : Box t ((((w.setCell ⟨b, 0, none⟩ y0).setCell ⟨b, 1, none⟩ y1).setCell ⟨b, 2, none⟩ y2).setCell ⟨b, 3, none⟩ y3) b #[y0, y1, y2, y3] := (((h.set 0 y0).set 1 y1).set 2 y2).set 3 y3
theorem set4_below {B b : Nat} {W w : World} (h : Below B W w) (hb : B ≤ b) (y0 y1 y2 y3 : Value) : Below B W ((((w.setCell ⟨b, 0, none⟩ y0).setCell ⟨b, 1, none⟩ y1).setCell ⟨b, 2, none⟩ y2).setCell ⟨b, 3, none⟩ y3) := (((h.setCell (p := ⟨b, 0, none⟩) hb y0).setCell (p := ⟨b, 1, none⟩) hb y1).setCell (p := ⟨b, 2, none⟩) hb y2).setCell (p := ⟨b, 3, none⟩) hb y3
/-- which row a number has: 31 of none -/
def ix (n : Int) : Nat := dNums.findIdx fun k => k == n
theorem dNums_len : dNums.length = 31 := rfl
theorem ix_le (n : Int) : ix n ≤ 31 := List.findIdx_le_length
theorem ix_hit (n : Int) (k : Nat) (hk : k < 31) (h : dN k = n) (hno : ∀ j, j < k → dN j ≠ n) : ix n = k := by
  have hl : k < dNums.length := by rw [dNums_len]; exact hk
  have e : dNums[k] = n := by rw [← h]; unfold dN; simp [List.getD_eq_getElem?_getD, hl]
  apply (List.findIdx_eq hl).2
  refine ⟨by simp [e], fun j hj => ?_⟩
  have := hno j hj
  unfold dN at this
  simp [List.getD_eq_getElem?_getD, Nat.lt_trans hj hl] at this
  simpa using this
theorem ix_none (n : Int) (hno : ∀ j, j < 31 → dN j ≠ n) : ix n = 31 := by
  unfold ix
  rw [← dNums_len]
  apply List.findIdx_eq_length.2
  intro x hx
  obtain ⟨j, hj, rfl⟩ := List.getElem_of_mem hx
  have := hno j (by rw [dNums_len] at hj; exact hj)
  unfold dN at this
  simp [List.getD_eq_getElem?_getD, hj] at this
  simpa using this
/-- is there such a register? -/
def knownB (n : Int) : Bool := decide (ix n < 31)
theorem rowC_none : rowC 31 = #[.int .i64 0, .string ⟨#[]⟩, .int .i64 0, .int .u64 0] := by kernel_rfl
set_option maxRecDepth 100000 in
set_option maxHeartbeats 2000000 in
theorem of_any (n : Int) (w : World) : Calls Try.prog 82 #[.int .i64 n] w fun e w' => e = .returned (.tuple #[.agg (rowC (ix n)), .bool (knownB n)]) ∧ Below w.heap.size w w' := by
  go_enter Try.func82, Try.ntmps82
  go_wp2_with fail
  refine (rows_at _).mono ?_
  rintro e w1 ⟨rfl, hb1, hr1⟩
  have X1 : Hid (Below w.heap.size w w1 ∧ Box 125 w1 w.heap.size zero125 ∧ RowsAt w1 (w.heap.size + 1)) := ⟨((Below.refl _ _).alloc (Nat.le_refl _) _).trans (hb1.mono (by simp)), (Box.new 125 w _).step hb1, by simpa using hr1⟩
  clear hb1 hr1
  go_wp2_with fail
  go_loopw [5] (fun i wr => ∃ k : Nat, k ≤ 31 ∧ i = .int .i64 k ∧ wr = w1 ∧ Hid (∀ j, j < k → dN j ≠ n)) (fun i _ => 31 - (intOf i).toNat)
  case atStart => exact ⟨0, by omega, rfl, rfl, fun j hj => absurd hj (Nat.not_lt_zero _)⟩
  case round =>
    obtain ⟨k, hk, rfl, hwr, HN⟩ := hrel
    rw [hwr]
    clear hwr
    by_cases hlt : k < 31
    · have hlt1 : (k : Int) < 31 := by omega
      obtain ⟨c0, c1, c2, c3⟩ := X1.out.2.2 k hlt
      by_cases he : dN k = n
      · have HE : Hid (ix n = k) := ix_hit n k hlt he HN.out
        rw [he] at c0
        have he1 : (dN k == n) = true := by simp [he]
        obtain ⟨q0, q1, q2, q3⟩ := box4_facts X1.out.2.1
        have z0 := X1.out.2.1.frozen 0
        have z1 := X1.out.2.1.frozen 1
        have z2 := X1.out.2.1.frozen 2
        have z3 := X1.out.2.1.frozen 3
        have HD : Hid (dN k = n) := he
        clear he he1
        generalize hs : dName k = s at *
        generalize ha : dAt k = at' at *
        generalize hm : dMask k = mk at *
        have HS : Hid (dName k = s ∧ dAt k = at' ∧ dMask k = mk) := ⟨hs, ha, hm⟩
        clear hs ha hm
        go_wp2_with fail
        have hput := box4_put X1.out.2.1 (.int .i64 n) (.string s) (.int .i64 at') (.int .u64 (mk : Nat))
        obtain ⟨r0, r1, r2, r3⟩ := box4_facts hput
        refine bodyPost_ret (v := .tuple #[.agg #[.int .i64 n, .string s, .int .i64 at', .int .u64 (mk : Nat)], .bool true]) (by simp [results, Try.results82, go_sem, r0, r1, r2, r3]) rfl ?_
        refine ⟨?_, set4_below X1.out.1 (Nat.le_refl _) _ _ _ _⟩
        unfold knownB
        rw [HE.out, show decide (k < 31) = true from by simp [hlt]]
        unfold rowC
        rw [HD.out, HS.out.1, HS.out.2.1, HS.out.2.2]
      · have he1 : (dN k == n) = false := by simp [he]
        have HE : Hid (dN k ≠ n) := he
        obtain ⟨d, hd⟩ : ∃ d, dN k = d := ⟨_, rfl⟩
        rw [hd] at c0 he1
        clear c1 c2 c3 he hd
        go_wp2_with fail
        go_roundw
        case rel => exact ⟨k + 1, by omega, by go_num, by first | rfl | trivial, fun j hj => by
          by_cases h : j = k
          · subst h; exact HE.out
          · exact HN.out j (by omega)⟩
        case measure => simp [intOf]; omega
    · obtain rfl : k = 31 := by omega
      have HE : Hid (ix n = 31) := ix_none n HN.out
      obtain ⟨q0, q1, q2, q3⟩ := box4_facts X1.out.2.1
      have z0 := X1.out.2.1.frozen 0
      have z1 := X1.out.2.1.frozen 1
      have z2 := X1.out.2.1.frozen 2
      have z3 := X1.out.2.1.frozen 3
      go_wp2_with fail
      have hput := box4_put X1.out.2.1 (.int .i64 0) (.string ⟨#[]⟩) (.int .i64 0) (.int .u64 0)
      obtain ⟨r0, r1, r2, r3⟩ := box4_facts hput
      refine bodyPost_ret (v := .tuple #[.agg #[.int .i64 0, .string ⟨#[]⟩, .int .i64 0, .int .u64 0], .bool false]) (by simp [results, Try.results82, go_sem, r0, r1, r2, r3]) rfl ?_
      refine ⟨?_, set4_below X1.out.1 (Nat.le_refl _) _ _ _ _⟩
      unfold knownB
      rw [HE.out, rowC_none]
      rfl
end Go.Proofs.Ytalgidnmmghejaa.E
