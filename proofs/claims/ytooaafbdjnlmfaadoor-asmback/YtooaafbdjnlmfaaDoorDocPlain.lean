/- The document's rows of layer 3 as numbers, and its Right and Word as plain functions: they say what the program's tables say. -/
import Derived.Test.YtooaafbdjnlmfaaDoorRight
import Derived.Test.YtooaafbdjnlmfaaDoorDocHas
namespace Go.Proofs.YtooaafbdjnlmfaaDoor
open Go.RowKit
set_option linter.unusedVariables false
set_option linter.unusedSimpArgs false
/-- the document's rows: form, code, f3, f7 -/
def dRows : List (Nat × Nat × Nat × Nat) := [(1, 55, 0, 0), (1, 23, 0, 0), (2, 111, 0, 0), (3, 103, 0, 0), (4, 99, 0, 0), (4, 99, 1, 0), (4, 99, 4, 0), (4, 99, 5, 0), (4, 99, 6, 0), (4, 99, 7, 0), (5, 3, 0, 0), (5, 3, 1, 0), (5, 3, 2, 0), (5, 3, 3, 0), (5, 3, 4, 0), (5, 3, 5, 0), (5, 3, 6, 0), (6, 35, 0, 0), (6, 35, 1, 0), (6, 35, 2, 0), (6, 35, 3, 0), (3, 19, 0, 0), (3, 19, 2, 0), (3, 19, 3, 0), (3, 19, 4, 0), (3, 19, 6, 0), (3, 19, 7, 0), (7, 19, 1, 0), (7, 19, 5, 0), (7, 19, 5, 32), (9, 51, 0, 0), (9, 51, 0, 32), (9, 51, 1, 0), (9, 51, 2, 0), (9, 51, 3, 0), (9, 51, 4, 0), (9, 51, 5, 0), (9, 51, 5, 32), (9, 51, 6, 0), (9, 51, 7, 0), (3, 27, 0, 0), (8, 27, 1, 0), (8, 27, 5, 0), (8, 27, 5, 32), (9, 59, 0, 0), (9, 59, 0, 32), (9, 59, 1, 0), (9, 59, 5, 0), (9, 59, 5, 32), (10, 15, 0, 0), (10, 15, 1, 0), (11, 115, 0, 0), (11, 115, 0, 1), (12, 115, 1, 0), (12, 115, 2, 0), (12, 115, 3, 0), (13, 115, 5, 0), (13, 115, 6, 0), (13, 115, 7, 0), (9, 51, 0, 1), (9, 51, 1, 1), (9, 51, 2, 1), (9, 51, 3, 1), (9, 51, 4, 1), (9, 51, 5, 1), (9, 51, 6, 1), (9, 51, 7, 1), (9, 59, 0, 1), (9, 59, 4, 1), (9, 59, 5, 1), (9, 59, 6, 1), (9, 59, 7, 1), (14, 47, 2, 2), (15, 47, 2, 3), (15, 47, 2, 1), (15, 47, 2, 0), (15, 47, 2, 4), (15, 47, 2, 12), (15, 47, 2, 8), (15, 47, 2, 16), (15, 47, 2, 20), (15, 47, 2, 24), (15, 47, 2, 28), (14, 47, 3, 2), (15, 47, 3, 3), (15, 47, 3, 1), (15, 47, 3, 0), (15, 47, 3, 4), (15, 47, 3, 12), (15, 47, 3, 8), (15, 47, 3, 16), (15, 47, 3, 20), (15, 47, 3, 24), (15, 47, 3, 28), (11, 115, 0, 770), (11, 115, 0, 258), (11, 115, 0, 261), (16, 115, 0, 9)]
def dForm (o : Nat) : Nat := (dRows.getD (o - 1) (0, 0, 0, 0)).1
def dCode (o : Nat) : Nat := (dRows.getD (o - 1) (0, 0, 0, 0)).2.1
def dF3 (o : Nat) : Nat := (dRows.getD (o - 1) (0, 0, 0, 0)).2.2.1
def dF7 (o : Nat) : Nat := (dRows.getD (o - 1) (0, 0, 0, 0)).2.2.2
/-- the document's number of a form -/
def dF (f : Nat) : Nat := if f = 4 then 5 else if f = 5 then 4 else f
theorem rows_forms : ∀ o, o < 99 → 1 ≤ o → dForm o = dF (formsT.getD o 0) := by decide +kernel
theorem rows_small : ∀ o, o < 99 → dForm o < 17 ∧ dCode o < 128 ∧ dF3 o < 8 ∧ dF7 o < 1024 := by decide +kernel
theorem rows_pos : ∀ o, o < 99 → 1 ≤ o → 1 ≤ dForm o := by decide +kernel
/-- what f3 adds -/
def dA3 (g n : Nat) : Nat := if ([1, 2] : List Int).contains (g : Int) then 0 else n * 4096
/-- what f7 adds -/
def dA7 (g n : Nat) : Nat := if g = 7 ∨ g = 8 ∨ g = 9 ∨ g = 16 then n * 33554432 else if g = 11 then n * 1048576 else if g = 14 ∨ g = 15 then n * 134217728 else 0
theorem rows_words : ∀ o, o < 99 → 1 ≤ o → wordsT.getD o 0 = dCode o + dA3 (dForm o) (dF3 o) + dA7 (dForm o) (dF7 o) := by decide +kernel
def hasD (g : Int) : Bool := !([4, 6, 11, 16] : List Int).contains g
def hasA (g : Int) : Bool := !([1, 2, 11, 13] : List Int).contains g
def hasB (g : Int) : Bool := ([4, 6, 9, 15, 16] : List Int).contains g
def hasC (g : Int) : Bool := ([12, 13] : List Int).contains g
def hasO (g : Int) : Bool := ([14, 15] : List Int).contains g
def dR1 (rd rs1 rs2 csr : Int) : Bool := decide (0 ≤ rd ∧ rd ≤ 31 ∧ 0 ≤ rs1 ∧ rs1 ≤ 31 ∧ 0 ≤ rs2 ∧ rs2 ≤ 31 ∧ 0 ≤ csr ∧ csr ≤ 4095)
def dR2 (g rd rs1 rs2 : Int) : Bool := (hasD g || decide (rd = 0)) && ((hasA g || decide (rs1 = 0)) && (hasB g || decide (rs2 = 0)))
def dR3 (g csr : Int) (aq rl : Bool) : Bool := (hasC g || decide (csr = 0)) && (hasO g || (!aq && !rl))
def dR4 (g : Nat) (imm : Int) : Bool := decide ((docSpan g).1.1 ≤ imm ∧ imm ≤ (docSpan g).1.2.1 ∧ imm % (docSpan g).1.2.2 = 0)
theorem span_same : ∀ f, f < 17 → (docSpan (dF f)).1 = spanN f := by decide
theorem r4_eq (f : Nat) (hf : f < 17) (imm : Int) : dR4 (dF f) imm = immB f imm := by
  unfold dR4 immB
  rw [span_same f hf]
theorem dF_lt : ∀ f, f < 17 → dF f < 17 := by decide
theorem parts_eq (f : Nat) (hf : f < 17) (hz : f ≠ 0) (rd rs1 rs2 csr : Int) (aq rl : Bool) : partsB f rd rs1 rs2 csr aq rl = (dR1 rd rs1 rs2 csr && (dR2 (dF f : Nat) rd rs1 rs2 && dR3 (dF f : Nat) csr aq rl)) := by
  have hcs : f = 1 ∨ f = 2 ∨ f = 3 ∨ f = 4 ∨ f = 5 ∨ f = 6 ∨ f = 7 ∨ f = 8 ∨ f = 9 ∨ f = 10 ∨ f = 11 ∨ f = 12 ∨ f = 13 ∨ f = 14 ∨ f = 15 ∨ f = 16 := by omega
  rcases hcs with rfl | rfl | rfl | rfl | rfl | rfl | rfl | rfl | rfl | rfl | rfl | rfl | rfl | rfl | rfl | rfl <;>
  (rw [Bool.eq_iff_iff]
   simp [partsB, amongB, mostI, mostN, partsT, dR1, dR2, dR3, dF, hasD, hasA, hasB, hasC, hasO]
   cases aq <;> cases rl <;> (try simp) <;> omega)
end Go.Proofs.YtooaafbdjnlmfaaDoor
