/- The document's small calls of layer 3: Known, Imm, in, part. -/
import Derived.Test.YtooaafbdjnlmfaaGreatDoorQIn
import Derived.Deep.RegionHeld3
import Derived.Handy
import Derived.Test.YtooaafbdjnlmfaaGreatDoorQRight
namespace Go.Proofs.YtooaafbdjnlmfaaGreatDoor
open Go.RowKit
set_option linter.unusedVariables false
set_option linter.unusedSimpArgs false
set_option maxRecDepth 100000 in
theorem known_yes (op : Int) (h0 : 1 ≤ op) (h1 : op ≤ 98) (w : World) : Calls Tryz.prog 67 #[.int .i64 op] w fun e w' => e = .returned (.bool true) ∧ w' = w := by
  go_enter Tryz.func67, Tryz.ntmps67
  go_wp2
  go_ret
  exact ⟨by first | (simp; done) | (simp; omega), rfl⟩
set_option maxRecDepth 100000 in
theorem known_no (op : Int) (h : ¬ (1 ≤ op ∧ op ≤ 98)) (w : World) : Calls Tryz.prog 67 #[.int .i64 op] w fun e w' => e = .returned (.bool false) ∧ w' = w := by
  by_cases h0 : 1 ≤ op
  · have h1 : 98 < op := by omega
    clear h
    go_enter Tryz.func67, Tryz.ntmps67
    go_wp2
    go_ret
    exact ⟨by first | (simp; done) | (simp; omega), rfl⟩
  · clear h
    go_enter Tryz.func67, Tryz.ntmps67
    go_wp2
    go_ret
    exact ⟨rfl, rfl⟩
/-- the document's least and greatest number of a form of its own, what divides it, and whether it has one -/
def docSpan (f : Nat) : (Int × Int × Int) × Bool := if f = 1 then ((-2147483648, 2147479552, 4096), true) else if f = 2 then ((-1048576, 1048574, 2), true) else if f = 4 then ((-4096, 4094, 2), true) else if f = 3 ∨ f = 5 ∨ f = 6 then ((-2048, 2047, 1), true) else if f = 7 then ((0, 63, 1), true) else if f = 8 ∨ f = 13 then ((0, 31, 1), true) else if f = 10 then ((0, 4095, 1), true) else ((0, 0, 1), false)
set_option maxRecDepth 100000 in
theorem dimm_any (f : Nat) (hf : f < 17) (w : World) : Calls Tryz.prog 47 #[.int .i64 (f : Nat)] w fun e w' => e = .returned (.tuple #[.int .i64 (docSpan f).1.1, .int .i64 (docSpan f).1.2.1, .int .i64 (docSpan f).1.2.2, .bool (docSpan f).2]) ∧ w' = w := by
  have h : f = 0 ∨ f = 1 ∨ f = 2 ∨ f = 3 ∨ f = 4 ∨ f = 5 ∨ f = 6 ∨ f = 7 ∨ f = 8 ∨ f = 9 ∨ f = 10 ∨ f = 11 ∨ f = 12 ∨ f = 13 ∨ f = 14 ∨ f = 15 ∨ f = 16 := by omega
  rcases h with rfl | rfl | rfl | rfl | rfl | rfl | rfl | rfl | rfl | rfl | rfl | rfl | rfl | rfl | rfl | rfl | rfl <;>
  (go_enter Tryz.func47, Tryz.ntmps47
   go_wp2
   go_returns
   exact ⟨rfl, rfl⟩)
theorem dget_int (x : Nat) (a n : Int) (hx : x < 18446744073709551616) (h0 : 0 ≤ a) (h1 : a ≤ 63) (h2 : 0 ≤ n) (h3 : n ≤ 64) (w : World) :
    Calls Tryz.prog 92 #[.int .u64 (x : Int), .int .i64 a, .int .i64 n] w fun e w' => e = .returned (.int .u64 (getI x a n : Nat)) ∧ Below w.heap.size w w' := by
  obtain ⟨b, rfl⟩ : ∃ b : Nat, a = b := ⟨a.toNat, by omega⟩
  have h := rget_any x b n (min n.toNat (64 - b)) hx (by omega) (by omega) w
  rw [get_eq x b (min n.toNat (64 - b)) n.toNat hx (by omega) rfl] at h
  exact h
theorem wrap_pow (p : Nat) (h : p ≤ 2147483648) : IntKind.i64.wrap (p : Int) = p := by rw [IntKind.wrap_i64]; omega
theorem shl_i64 (n : Int) (h0 : 0 ≤ n) (h1 : n ≤ 31) : Op.shift BinOp.shl IntKind.i64 1 IntKind.i64 n = pure (.int .i64 ((2 ^ n.toNat : Nat) : Int)) := by
  have hp : 2 ^ n.toNat ≤ 2147483648 := Nat.le_trans (Nat.pow_le_pow_right (by omega) (show n.toNat ≤ 31 by omega)) (by decide)
  have e : (1 : Int) * 2 ^ n.toNat = ((2 ^ n.toNat : Nat) : Int) := by simp
  rw [shift_shl_any _ _ _ _ h0, show min n.toNat IntKind.i64.bits = n.toNat from by show min n.toNat 64 = _; omega, e, wrap_pow _ hp]
set_option maxRecDepth 100000 in
set_option maxHeartbeats 400000 in
theorem part_any (v : Int) (U : Nat) (hU : IntKind.u64.wrap v = (U : Int)) (hx : U < 18446744073709551616) (a n t : Int) (h0 : 0 ≤ a) (h1 : a ≤ 63) (h2 : 0 ≤ n) (h3 : n ≤ 20) (h4 : 0 ≤ t) (h5 : t ≤ 31) (w : World) :
    Calls Tryz.prog 88 #[.int .i64 v, .int .i64 a, .int .i64 n, .int .i64 t] w fun e w' => e = .returned (.int .i64 (getI U a n * 2 ^ t.toNat : Nat)) ∧ Below w.heap.size w w' := by
  have hs := shl_i64 t h4 h5
  have hg : getI U a n < 1048576 := Nat.lt_of_lt_of_le (getI_lt U a n) (Nat.le_trans (Nat.pow_le_pow_right (by omega) (show n.toNat ≤ 20 by omega)) (by decide))
  have hp : 2 ^ t.toNat ≤ 2147483648 := Nat.le_trans (Nat.pow_le_pow_right (by omega) (show t.toNat ≤ 31 by omega)) (by decide)
  have HG : Hid _ := fun w => dget_int U a n hx h0 h1 h2 (by omega) w
  generalize hK : 2 ^ t.toNat = K at *
  generalize hG : getI U a n = G at *
  clear hK hG h0 h1 h2 h3 h4 h5
  have hm : G * K < 9223372036854775808 := Nat.lt_of_lt_of_le (Nat.mul_lt_mul_of_lt_of_le hg hp (by omega)) (by decide)
  have hw1 : IntKind.i64.wrap (G : Int) = G := by rw [IntKind.wrap_i64]; omega
  have hw2 : IntKind.i64.wrap ((G * K : Nat) : Int) = ((G * K : Nat) : Int) := by rw [IntKind.wrap_i64]; omega
  have H6 : Hid (IntKind.i64.wrap (IntKind.i64.wrap (G : Int) * (K : Int)) = ((G * K : Nat) : Int)) := (by rw [hw1, show (G : Int) * (K : Int) = ((G * K : Nat) : Int) from by simp, hw2] : IntKind.i64.wrap (IntKind.i64.wrap (G : Int) * (K : Int)) = ((G * K : Nat) : Int))
  clear hw1 hw2 hm hg hp
  go_enter Tryz.func88, Tryz.ntmps88
  go_wp2
  go_region_held3 (fun W => True) (go_keep) (first | (go_at_call 92; refine (HG.out _).mono ?_; rintro e w1 ⟨rfl, hb1⟩; have B1 : Hid _ := hb1; clear hb1))
  go_wp2
  go_ret
  exact ⟨by rw [← H6.out]; rfl, ((Below.refl _ _).drew).trans B1.out⟩
end Go.Proofs.YtooaafbdjnlmfaaGreatDoor

namespace Go.Proofs.YtooaafbdjnlmfaaGreatDoor
open Go.RowKit
set_option linter.unusedVariables false
set_option linter.unusedSimpArgs false
set_option maxRecDepth 100000 in
set_option maxHeartbeats 400000 in
theorem in_yes (f : Int) (b n m : Nat) (l : Nat → Int) (w : World) (hn : n ≤ 100) (hc : ∀ i, i < n → w.cell? ⟨b, i, none⟩ = some (.int .i64 (l i))) (hm : m < n) (hl : l m = f) (hno : ∀ j, j < m → l j ≠ f) :
    Calls Tryz.prog 46 #[.int .i64 f, .slice (some ⟨b, 0, none⟩) n n] w fun e w' => e = .returned (.bool true) ∧ w' = w := by
  have HC : Hid _ := hc
  have HN : Hid _ := hno
  clear hc hno
  go_enter Tryz.func46, Tryz.ntmps46
  go_wp2
  go_loopw [5] (fun i wr => ∃ k : Nat, k ≤ m ∧ i = .int .i64 k ∧ wr = w) (fun i _ => 100 - (intOf i).toNat)
  case atStart => exact ⟨0, by omega, rfl, rfl⟩
  case round =>
    obtain ⟨k, hk, rfl, hw⟩ := hrel
    rw [hw]
    clear hw
    have hki : (k : Int) < n := by omega
    by_cases hkm : k < m
    · have hc := HC.out k (by omega)
      have hq : (l k == f) = false := by simpa using HN.out k hkm
      generalize l k = z at *
      go_wp2
      go_roundw
      case rel => exact ⟨k + 1, by omega, by go_num, trivial⟩
      case measure => simp [intOf]; omega
    · obtain rfl : k = m := by omega
      have hc := HC.out k (by omega)
      rw [hl] at hc
      go_wp2
      go_ret
      exact ⟨rfl, rfl⟩
set_option maxRecDepth 100000 in
set_option maxHeartbeats 400000 in
theorem in_no (f : Int) (b n : Nat) (l : Nat → Int) (w : World) (hn : n ≤ 100) (hc : ∀ i, i < n → w.cell? ⟨b, i, none⟩ = some (.int .i64 (l i))) (hno : ∀ j, j < n → l j ≠ f) :
    Calls Tryz.prog 46 #[.int .i64 f, .slice (some ⟨b, 0, none⟩) n n] w fun e w' => e = .returned (.bool false) ∧ w' = w := by
  have HC : Hid _ := hc
  have HN : Hid _ := hno
  clear hc hno
  go_enter Tryz.func46, Tryz.ntmps46
  go_wp2
  go_loopw [5] (fun i wr => ∃ k : Nat, k ≤ n ∧ i = .int .i64 k ∧ wr = w) (fun i _ => 100 - (intOf i).toNat)
  case atStart => exact ⟨0, by omega, rfl, rfl⟩
  case round =>
    obtain ⟨k, hk, rfl, hw⟩ := hrel
    rw [hw]
    clear hw
    by_cases hkm : k < n
    · have hki : (k : Int) < n := by omega
      have hc := HC.out k (by omega)
      have hq : (l k == f) = false := by simpa using HN.out k hkm
      generalize l k = z at *
      go_wp2
      go_roundw
      case rel => exact ⟨k + 1, by omega, by go_num, trivial⟩
      case measure => simp [intOf]; omega
    · obtain rfl : k = n := by omega
      go_wp2
      go_ret
      exact ⟨rfl, rfl⟩
theorem new_cell (L : List Int) (w : World) (t : TypeId) (i : Nat) (h : i < L.length) : (w.alloc (.cells (L.map fun z => Value.int .i64 z).toArray t)).cell? ⟨w.heap.size, i, none⟩ = some (.int .i64 (L.getD i 0)) := by
  simp only [World.cell?, heap_alloc_new w (.cells (L.map fun z => Value.int .i64 z).toArray t)]
  simp [List.getElem?_eq_getElem h, List.getD_eq_getElem?_getD]
theorem in_new (f : Int) (L : List Int) (n : Nat) (hn : n = L.length) (hL : n ≤ 100) (t : TypeId) (w : World) :
    Calls Tryz.prog 46 #[.int .i64 f, .slice (some ⟨w.heap.size, 0, none⟩) n n] (w.alloc (.cells (L.map fun z => Value.int .i64 z).toArray t)) fun e w' => e = .returned (.bool (L.contains f)) ∧ w' = w.alloc (.cells (L.map fun z => Value.int .i64 z).toArray t) := by
  subst hn
  have hc := fun i (h : i < L.length) => new_cell L w t i h
  cases hk : L.contains f
  · refine in_no f _ L.length (fun i => L.getD i 0) _ hL hc (fun j hj he => ?_)
    have : f ∈ L := by
      rw [← he, List.getD_eq_getElem?_getD, List.getElem?_eq_getElem hj]
      exact List.getElem_mem hj
    simp at hk
    exact hk this
  · have hm : f ∈ L := by simpa using hk
    have hlt : L.findIdx (fun z => z == f) < L.length := List.findIdx_lt_length_of_exists ⟨f, hm, by simp⟩
    refine in_yes f _ L.length (L.findIdx fun z => z == f) (fun i => L.getD i 0) _ hL hc hlt ?_ (fun j hj he => ?_)
    · have := List.findIdx_getElem (w := hlt)
      rw [List.getD_eq_getElem?_getD, List.getElem?_eq_getElem hlt]
      simpa using this
    · have h2 := List.not_of_lt_findIdx hj
      rw [List.getD_eq_getElem?_getD, List.getElem?_eq_getElem (by omega)] at he
      simp at he h2
      exact h2 he
end Go.Proofs.YtooaafbdjnlmfaaGreatDoor

namespace Go.Proofs.YtooaafbdjnlmfaaGreatDoor
open Go.RowKit
set_option linter.unusedVariables false
set_option linter.unusedSimpArgs false
set_option maxRecDepth 100000 in
theorem drd_any (f : Int) (w : World) : Calls Tryz.prog 68 #[.int .i64 f] w fun e w' => e = .returned (.bool (!([4, 6, 11, 16] : List Int).contains f)) ∧ Below w.heap.size w w' := by
  have hi : Calls Tryz.prog 46 #[.int .i64 f, .slice (some ⟨w.heap.size, 0, none⟩) 4 4] (w.alloc (.cells #[.int .i64 4, .int .i64 6, .int .i64 11, .int .i64 16] 3)) fun e w' => e = .returned (.bool (([4, 6, 11, 16] : List Int).contains f)) ∧ w' = w.alloc (.cells #[.int .i64 4, .int .i64 6, .int .i64 11, .int .i64 16] 3) := in_new f [4, 6, 11, 16] 4 rfl (by decide) 3 w
  have HI : Hid _ := hi
  clear hi
  generalize ([4, 6, 11, 16] : List Int).contains f = bb at *
  go_enter Tryz.func68, Tryz.ntmps68
  go_wp2_with fail
  refine Calls.mono (by exact HI.out) ?_
  rintro e w1 ⟨rfl, hw1⟩
  rw [hw1]
  clear hw1
  go_wp2
  go_ret
  exact ⟨rfl, (Below.refl _ _).alloc (Nat.le_refl _) _⟩
set_option maxRecDepth 100000 in
theorem drs1_any (f : Int) (w : World) : Calls Tryz.prog 69 #[.int .i64 f] w fun e w' => e = .returned (.bool (!([1, 2, 11, 13] : List Int).contains f)) ∧ Below w.heap.size w w' := by
  have hi : Calls Tryz.prog 46 #[.int .i64 f, .slice (some ⟨w.heap.size, 0, none⟩) 4 4] (w.alloc (.cells #[.int .i64 1, .int .i64 2, .int .i64 11, .int .i64 13] 3)) fun e w' => e = .returned (.bool (([1, 2, 11, 13] : List Int).contains f)) ∧ w' = w.alloc (.cells #[.int .i64 1, .int .i64 2, .int .i64 11, .int .i64 13] 3) := in_new f [1, 2, 11, 13] 4 rfl (by decide) 3 w
  have HI : Hid _ := hi
  clear hi
  generalize ([1, 2, 11, 13] : List Int).contains f = bb at *
  go_enter Tryz.func69, Tryz.ntmps69
  go_wp2_with fail
  refine Calls.mono (by exact HI.out) ?_
  rintro e w1 ⟨rfl, hw1⟩
  rw [hw1]
  clear hw1
  go_wp2
  go_ret
  exact ⟨rfl, (Below.refl _ _).alloc (Nat.le_refl _) _⟩
set_option maxRecDepth 100000 in
theorem drs2_any (f : Int) (w : World) : Calls Tryz.prog 70 #[.int .i64 f] w fun e w' => e = .returned (.bool (([4, 6, 9, 15, 16] : List Int).contains f)) ∧ Below w.heap.size w w' := by
  have hi : Calls Tryz.prog 46 #[.int .i64 f, .slice (some ⟨w.heap.size, 0, none⟩) 5 5] (w.alloc (.cells #[.int .i64 4, .int .i64 6, .int .i64 9, .int .i64 15, .int .i64 16] 3)) fun e w' => e = .returned (.bool (([4, 6, 9, 15, 16] : List Int).contains f)) ∧ w' = w.alloc (.cells #[.int .i64 4, .int .i64 6, .int .i64 9, .int .i64 15, .int .i64 16] 3) := in_new f [4, 6, 9, 15, 16] 5 rfl (by decide) 3 w
  have HI : Hid _ := hi
  clear hi
  generalize ([4, 6, 9, 15, 16] : List Int).contains f = bb at *
  go_enter Tryz.func70, Tryz.ntmps70
  go_wp2_with fail
  refine Calls.mono (by exact HI.out) ?_
  rintro e w1 ⟨rfl, hw1⟩
  rw [hw1]
  clear hw1
  go_wp2
  go_ret
  exact ⟨rfl, (Below.refl _ _).alloc (Nat.le_refl _) _⟩
end Go.Proofs.YtooaafbdjnlmfaaGreatDoor

namespace Go.Proofs.YtooaafbdjnlmfaaGreatDoor
open Go.RowKit
set_option linter.unusedVariables false
set_option linter.unusedSimpArgs false
section
variable {w : World} {ops : Array Oper} {rest : List Oper} {o : Oper} {a : Act} {Q : Exit → Act → World → Prop}
theorem wpList_build72 (hg : o.guard = none) (s : ByteArray) (z1 z2 z3 z4 : Int) (hop : o.op = Op.build 72 #[(0, .const (.string s)), (1, .const (.int .i64 z1)), (2, .const (.int .i64 z2)), (3, .const (.int .i64 z3)), (4, .const (.int .i64 z4))]) (h : wpList Tryz.prog ops Q rest (a.put o.dst (.agg #[.string s, .int .i64 z1, .int .i64 z2, .int .i64 z3, .int .i64 z4])) w) : wpList Tryz.prog ops Q (o :: rest) a w := by
  refine wpList_plain hg fun K hK => ?_
  unfold Oper.wp
  simp [execOp, hop, go_sem, Act.eval]
  exact hK _ _ h
theorem wpList_assign_const (hg : o.guard = none) (v : Value) (hop : o.op = Op.assign (.const v)) (h : wpList Tryz.prog ops Q rest (a.put o.dst v) w) : wpList Tryz.prog ops Q (o :: rest) a w := by
  refine wpList_plain hg fun K hK => ?_
  unfold Oper.wp
  simp [execOp, hop, go_sem, Act.eval]
  exact hK _ _ h
end
end Go.Proofs.YtooaafbdjnlmfaaGreatDoor

namespace Go.Proofs.YtooaafbdjnlmfaaGreatDoor
open Go.RowKit
set_option linter.unusedVariables false
set_option linter.unusedSimpArgs false
/-- the document's rows: form, code, f3, f7 -/
def dRows : List (Nat × Nat × Nat × Nat) := [(1, 55, 0, 0), (1, 23, 0, 0), (2, 111, 0, 0), (3, 103, 0, 0), (4, 99, 0, 0), (4, 99, 1, 0), (4, 99, 4, 0), (4, 99, 5, 0), (4, 99, 6, 0), (4, 99, 7, 0), (5, 3, 0, 0), (5, 3, 1, 0), (5, 3, 2, 0), (5, 3, 3, 0), (5, 3, 4, 0), (5, 3, 5, 0), (5, 3, 6, 0), (6, 35, 0, 0), (6, 35, 1, 0), (6, 35, 2, 0), (6, 35, 3, 0), (3, 19, 0, 0), (3, 19, 2, 0), (3, 19, 3, 0), (3, 19, 4, 0), (3, 19, 6, 0), (3, 19, 7, 0), (7, 19, 1, 0), (7, 19, 5, 0), (7, 19, 5, 32), (9, 51, 0, 0), (9, 51, 0, 32), (9, 51, 1, 0), (9, 51, 2, 0), (9, 51, 3, 0), (9, 51, 4, 0), (9, 51, 5, 0), (9, 51, 5, 32), (9, 51, 6, 0), (9, 51, 7, 0), (3, 27, 0, 0), (8, 27, 1, 0), (8, 27, 5, 0), (8, 27, 5, 32), (9, 59, 0, 0), (9, 59, 0, 32), (9, 59, 1, 0), (9, 59, 5, 0), (9, 59, 5, 32), (10, 15, 0, 0), (10, 15, 1, 0), (11, 115, 0, 0), (11, 115, 0, 1), (12, 115, 1, 0), (12, 115, 2, 0), (12, 115, 3, 0), (13, 115, 5, 0), (13, 115, 6, 0), (13, 115, 7, 0), (9, 51, 0, 1), (9, 51, 1, 1), (9, 51, 2, 1), (9, 51, 3, 1), (9, 51, 4, 1), (9, 51, 5, 1), (9, 51, 6, 1), (9, 51, 7, 1), (9, 59, 0, 1), (9, 59, 4, 1), (9, 59, 5, 1), (9, 59, 6, 1), (9, 59, 7, 1), (14, 47, 2, 2), (15, 47, 2, 3), (15, 47, 2, 1), (15, 47, 2, 0), (15, 47, 2, 4), (15, 47, 2, 12), (15, 47, 2, 8), (15, 47, 2, 16), (15, 47, 2, 20), (15, 47, 2, 24), (15, 47, 2, 28), (14, 47, 3, 2), (15, 47, 3, 3), (15, 47, 3, 1), (15, 47, 3, 0), (15, 47, 3, 4), (15, 47, 3, 12), (15, 47, 3, 8), (15, 47, 3, 16), (15, 47, 3, 20), (15, 47, 3, 24), (15, 47, 3, 28), (11, 115, 0, 770), (11, 115, 0, 258), (11, 115, 0, 261), (16, 115, 0, 9)]
def dForm (o : Nat) : Nat := (dRows.getD (o - 1) (0, 0, 0, 0)).1
def dCode (o : Nat) : Nat := (dRows.getD (o - 1) (0, 0, 0, 0)).2.1
def dF3 (o : Nat) : Nat := (dRows.getD (o - 1) (0, 0, 0, 0)).2.2.1
def dF7 (o : Nat) : Nat := (dRows.getD (o - 1) (0, 0, 0, 0)).2.2.2
/-- the document's number of a form -/
def dF (f : Nat) : Nat := if f = 4 then 5 else if f = 5 then 4 else f
theorem rows_forms : ∀ o, o < 99 → 1 ≤ o → dForm o = dF (formsT.getD o 0) := by decide +kernel
theorem rows_small : ∀ o, o < 99 → dForm o < 17 ∧ dCode o < 128 ∧ dF3 o < 8 ∧ dF7 o < 1024 := by decide +kernel
theorem rows_pos : ∀ o, o < 99 → 1 ≤ o → 1 ≤ dForm o := by decide +kernel
/-- what f3 adds -/
def dA3 (g n : Nat) : Nat := if ([1, 2] : List Int).contains (g : Int) then 0 else n * 4096
/-- what f7 adds -/
def dA7 (g n : Nat) : Nat := if g = 7 ∨ g = 8 ∨ g = 9 ∨ g = 16 then n * 33554432 else if g = 11 then n * 1048576 else if g = 14 ∨ g = 15 then n * 134217728 else 0
theorem rows_words : ∀ o, o < 99 → 1 ≤ o → wordsT.getD o 0 = dCode o + dA3 (dForm o) (dF3 o) + dA7 (dForm o) (dF7 o) := by decide +kernel
def hasD (g : Int) : Bool := !([4, 6, 11, 16] : List Int).contains g
def hasA (g : Int) : Bool := !([1, 2, 11, 13] : List Int).contains g
def hasB (g : Int) : Bool := ([4, 6, 9, 15, 16] : List Int).contains g
def hasC (g : Int) : Bool := ([12, 13] : List Int).contains g
def hasO (g : Int) : Bool := ([14, 15] : List Int).contains g
def dR1 (rd rs1 rs2 csr : Int) : Bool := decide (0 ≤ rd ∧ rd ≤ 31 ∧ 0 ≤ rs1 ∧ rs1 ≤ 31 ∧ 0 ≤ rs2 ∧ rs2 ≤ 31 ∧ 0 ≤ csr ∧ csr ≤ 4095)
def dR2 (g rd rs1 rs2 : Int) : Bool := (hasD g || decide (rd = 0)) && ((hasA g || decide (rs1 = 0)) && (hasB g || decide (rs2 = 0)))
def dR3 (g csr : Int) (aq rl : Bool) : Bool := (hasC g || decide (csr = 0)) && (hasO g || (!aq && !rl))
def dR4 (g : Nat) (imm : Int) : Bool := decide ((docSpan g).1.1 ≤ imm ∧ imm ≤ (docSpan g).1.2.1 ∧ imm % (docSpan g).1.2.2 = 0)
theorem span_same : ∀ f, f < 17 → (docSpan (dF f)).1 = spanN f := by decide
theorem r4_eq (f : Nat) (hf : f < 17) (imm : Int) : dR4 (dF f) imm = immB f imm := by
  unfold dR4 immB
  rw [span_same f hf]
theorem dF_lt : ∀ f, f < 17 → dF f < 17 := by decide
theorem parts_eq (f : Nat) (hf : f < 17) (hz : f ≠ 0) (rd rs1 rs2 csr : Int) (aq rl : Bool) : partsB f rd rs1 rs2 csr aq rl = (dR1 rd rs1 rs2 csr && (dR2 (dF f : Nat) rd rs1 rs2 && dR3 (dF f : Nat) csr aq rl)) := by
  have hcs : f = 1 ∨ f = 2 ∨ f = 3 ∨ f = 4 ∨ f = 5 ∨ f = 6 ∨ f = 7 ∨ f = 8 ∨ f = 9 ∨ f = 10 ∨ f = 11 ∨ f = 12 ∨ f = 13 ∨ f = 14 ∨ f = 15 ∨ f = 16 := by omega
  rcases hcs with rfl | rfl | rfl | rfl | rfl | rfl | rfl | rfl | rfl | rfl | rfl | rfl | rfl | rfl | rfl | rfl <;>
  (rw [Bool.eq_iff_iff]
   simp [partsB, amongB, mostI, mostN, partsT, dR1, dR2, dR3, dF, hasD, hasA, hasB, hasC, hasO]
   cases aq <;> cases rl <;> (try simp) <;> omega)
end Go.Proofs.YtooaafbdjnlmfaaGreatDoor
