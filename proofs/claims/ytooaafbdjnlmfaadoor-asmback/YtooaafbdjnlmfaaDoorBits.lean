/- What the document's answer of layer 1 makes of a word bit by bit: the call Bits lays a word's bits in a new row, the call Word reads a row of bits; Get and Sext bit by bit. -/
import Derived.Test.YtooaafbdjnlmfaaDoorRows
import Derived.WalkKit
import Derived.WalkSpells
import Derived.WalkLawsBesides
import Derived.OpenShut
import Derived.Deep.QuietTactic
import Derived.BigQuiet
import Derived.Outline
namespace Go.Proofs.YtooaafbdjnlmfaaDoor
open Go.RowKit
theorem Tryd.info3 : (Tryd.prog.info? 3).map (fun i => (i.zero, i.size, i.bytes)) = some (some (.int .i64 0), 1, 8) := by kernel_rfl
/-- the first k numbers of a function, as cells -/
def rowOf (f : Nat → Nat) (k : Nat) : List Value := (List.range k).map fun i => Value.int .i64 ((f i : Nat) : Int)
theorem rowOf_succ (f : Nat → Nat) (k : Nat) : rowOf f (k + 1) = rowOf f k ++ [Value.int .i64 ((f k : Nat) : Int)] := by
  simp [rowOf, List.range_succ]
theorem rowOf_get (f : Nat → Nat) (k i : Nat) (h : i < k) : (rowOf f k)[i]? = some (Value.int .i64 ((f i : Nat) : Int)) := by
  simp [rowOf, h]
/-- bit i of a word, as a number -/
def bitAt (x i : Nat) : Nat := x / 2 ^ i % 2
theorem bitAt_le (x i : Nat) : bitAt x i ≤ 1 := by unfold bitAt; omega
theorem grow_step {B : Nat} {w wr w1 : World} {o : Obj} {e : TypeId} {size n : Nat} {v : Value} {xs : List Value} (hb : Below B w wr) (hB : B ≤ wr.heap.size) (hown : wr.ownsRow B e size v n xs) (hg : (wr.alloc o).grownBy w1 v.ownBlock) : Below B w w1 :=
  Below.grown (hb.alloc hB o) hg (by simp; omega) (fun j hj => (hown.lt j hj).1)
/-- the number whose bits are m numbers of a function, from the one at i on -/
def hiOf (f : Nat → Nat) : Nat → Nat → Nat
  | 0, _ => 0
  | m + 1, i => hiOf f m (i + 1) * 2 + f i
theorem hiOf_lt (f : Nat → Nat) : ∀ (m i : Nat), (∀ j, j < m → f (i + j) ≤ 1) → hiOf f m i < 2 ^ m
  | 0, _, _ => by simp [hiOf]
  | m + 1, i, h => by
    have h1 := hiOf_lt f m (i + 1) (fun j hj => by have := h (j + 1) (by omega); rwa [show i + 1 + j = i + (j + 1) from by omega])
    have h0 := h 0 (by omega)
    simp only [hiOf, Nat.pow_succ] at *
    simp at h0
    omega
theorem hiOf_testBit (f : Nat → Nat) : ∀ (m i j : Nat), (∀ j, j < m → f (i + j) ≤ 1) → (hiOf f m i).testBit j = (decide (j < m) && decide (f (i + j) = 1))
  | 0, _, _, _ => by simp [hiOf]
  | m + 1, i, 0, h => by
    have h0 := h 0 (by omega)
    simp only [hiOf, Nat.testBit_zero]
    simp at h0 ⊢
    omega
  | m + 1, i, j + 1, h => by
    have h0 := h 0 (by omega)
    simp only [hiOf, Nat.testBit_succ]
    simp at h0
    rw [show (hiOf f m (i + 1) * 2 + f i) / 2 = hiOf f m (i + 1) from by omega,
      hiOf_testBit f m (i + 1) j (fun j hj => by have := h (j + 1) (by omega); rwa [show i + 1 + j = i + (j + 1) from by omega])]
    simp [show i + 1 + j = i + (j + 1) from by omega]
theorem ret_eq {a b : Nat} (h : a = b) : Ending.returned (.int .u64 (a : Int)) = .returned (.int .u64 (b : Int)) := by rw [h]
/-- one store into a row of the call's own -/
theorem rowOf_set (f : Nat → Nat) (n j b : Nat) : (rowOf f n).set j (Value.int .i64 (b : Int)) = rowOf (fun i => if i = j then b else f i) n := by
  apply List.ext_getElem?
  intro i
  simp only [rowOf, List.getElem?_set, List.getElem?_map, List.length_map, List.length_range]
  by_cases h : i < n
  · by_cases e : j = i
    · subst e; simp [h]
    · simp [h, e]; rw [if_neg (fun h' => e h'.symm)]
  · by_cases e : j = i
    · subst e; simp [h]
    · simp [h, e]
/-- the bits of a word with its sign from the bit n - 1 on, till bit k -/
def sextF (x n k : Nat) (j : Nat) : Nat := if n ≤ j ∧ j < k then bitAt x (n - 1) else bitAt x j
theorem sextF_le (x n k j : Nat) : sextF x n k j ≤ 1 := by unfold sextF; split <;> exact bitAt_le _ _
theorem sextF_start (x n : Nat) : sextF x n n = bitAt x := by funext j; simp [sextF]; omega
theorem sextF_succ (x n k : Nat) (h : n ≤ k) : sextF x n (k + 1) = fun i => if i = k then bitAt x (n - 1) else sextF x n k i := by
  funext i
  simp only [sextF]
  by_cases e : i = k
  · subst e; simp [h]
  · simp only [e, if_false]
    by_cases h2 : n ≤ i ∧ i < k
    · rw [if_pos h2, if_pos (by omega)]
    · rw [if_neg h2, if_neg (by omega)]
theorem below_grownBy {w w' : World} (h : Below w.heap.size w w') (row : Option Nat) : w.grownBy w' row := ⟨h.os, h.tape, h.output, h.size, fun k hk _ => h.block k hk⟩
end Go.Proofs.YtooaafbdjnlmfaaDoor
