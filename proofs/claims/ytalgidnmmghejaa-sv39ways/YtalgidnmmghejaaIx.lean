/- A register's number is its row's. -/
import Derived.Test.YtalgidnmmghejaaDOf
namespace Go.Proofs.Ytalgidnmmghejaa.E
open Go.RowKit
theorem ix_dN (n : Int) (h : ix n < 31) : dN (ix n) = n := by
  have hl : ix n < dNums.length := by rw [dNums_len]; exact h
  have := List.findIdx_getElem (xs := dNums) (p := fun k => k == n) (w := hl)
  unfold dN
  simp only [List.getD_eq_getElem?_getD]
  simp only [beq_iff_eq] at this
  have e : dNums[ix n]? = some n := by rw [List.getElem?_eq_getElem hl]; exact congrArg some this
  rw [e]; rfl
end Go.Proofs.Ytalgidnmmghejaa.E
