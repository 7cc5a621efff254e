/- The document's call in of layer 3: is a form one of some? And Rd, Rs1, Rs2. -/
import Derived.Test.YtooaafbdjnlmfaaDoorDoc
namespace Go.Proofs.YtooaafbdjnlmfaaDoor
open Go.RowKit
set_option linter.unusedVariables false
set_option linter.unusedSimpArgs false
set_option maxRecDepth 100000 in
set_option maxHeartbeats 400000 in
theorem in_yes (f : Int) (b n m : Nat) (l : Nat → Int) (w : World) (hn : n ≤ 100) (hc : ∀ i, i < n → w.cell? ⟨b, i, none⟩ = some (.int .i64 (l i))) (hm : m < n) (hl : l m = f) (hno : ∀ j, j < m → l j ≠ f) :
    Calls Tryd.prog 18 #[.int .i64 f, .slice (some ⟨b, 0, none⟩) n n] w fun e w' => e = .returned (.bool true) ∧ w' = w := by
  have HC : Hid _ := hc
  have HN : Hid _ := hno
  clear hc hno
  go_enter Tryd.func18, Tryd.ntmps18
  go_wp2
  go_loopw [5] (fun i wr => ∃ k : Nat, k ≤ m ∧ i = .int .i64 k ∧ wr = w) (fun i _ => 100 - (intOf i).toNat)
  case atStart => exact ⟨0, by omega, rfl, rfl⟩
  case round =>
    obtain ⟨k, hk, rfl, hw⟩ := hrel
    rw [hw]
    clear hw
    have hki : (k : Int) < n := by omega
    by_cases hkm : k < m
    · have hc := HC.out k (by omega)
      have hq : (l k == f) = false := by simpa using HN.out k hkm
      generalize l k = z at *
      go_wp2
      go_roundw
      case rel => exact ⟨k + 1, by omega, by go_num, trivial⟩
      case measure => simp [intOf]; omega
    · obtain rfl : k = m := by omega
      have hc := HC.out k (by omega)
      rw [hl] at hc
      go_wp2
      go_ret
      exact ⟨rfl, rfl⟩
set_option maxRecDepth 100000 in
set_option maxHeartbeats 400000 in
theorem in_no (f : Int) (b n : Nat) (l : Nat → Int) (w : World) (hn : n ≤ 100) (hc : ∀ i, i < n → w.cell? ⟨b, i, none⟩ = some (.int .i64 (l i))) (hno : ∀ j, j < n → l j ≠ f) :
    Calls Tryd.prog 18 #[.int .i64 f, .slice (some ⟨b, 0, none⟩) n n] w fun e w' => e = .returned (.bool false) ∧ w' = w := by
  have HC : Hid _ := hc
  have HN : Hid _ := hno
  clear hc hno
  go_enter Tryd.func18, Tryd.ntmps18
  go_wp2
  go_loopw [5] (fun i wr => ∃ k : Nat, k ≤ n ∧ i = .int .i64 k ∧ wr = w) (fun i _ => 100 - (intOf i).toNat)
  case atStart => exact ⟨0, by omega, rfl, rfl⟩
  case round =>
    obtain ⟨k, hk, rfl, hw⟩ := hrel
    rw [hw]
    clear hw
    by_cases hkm : k < n
    · have hki : (k : Int) < n := by omega
      have hc := HC.out k (by omega)
      have hq : (l k == f) = false := by simpa using HN.out k hkm
      generalize l k = z at *
      go_wp2
      go_roundw
      case rel => exact ⟨k + 1, by omega, by go_num, trivial⟩
      case measure => simp [intOf]; omega
    · obtain rfl : k = n := by omega
      go_wp2
      go_ret
      exact ⟨rfl, rfl⟩
theorem new_cell (L : List Int) (w : World) (t : TypeId) (i : Nat) (h : i < L.length) : (w.alloc (.cells (L.map fun z => Value.int .i64 z).toArray t)).cell? ⟨w.heap.size, i, none⟩ = some (.int .i64 (L.getD i 0)) := by
  simp only [World.cell?, heap_alloc_new w (.cells (L.map fun z => Value.int .i64 z).toArray t)]
  simp [List.getElem?_eq_getElem h, List.getD_eq_getElem?_getD]
theorem in_new (f : Int) (L : List Int) (n : Nat) (hn : n = L.length) (hL : n ≤ 100) (t : TypeId) (w : World) :
    Calls Tryd.prog 18 #[.int .i64 f, .slice (some ⟨w.heap.size, 0, none⟩) n n] (w.alloc (.cells (L.map fun z => Value.int .i64 z).toArray t)) fun e w' => e = .returned (.bool (L.contains f)) ∧ w' = w.alloc (.cells (L.map fun z => Value.int .i64 z).toArray t) := by
  subst hn
  have hc := fun i (h : i < L.length) => new_cell L w t i h
  cases hk : L.contains f
  · refine in_no f _ L.length (fun i => L.getD i 0) _ hL hc (fun j hj he => ?_)
    have : f ∈ L := by
      rw [← he, List.getD_eq_getElem?_getD, List.getElem?_eq_getElem hj]
      exact List.getElem_mem hj
    simp at hk
    exact hk this
  · have hm : f ∈ L := by simpa using hk
    have hlt : L.findIdx (fun z => z == f) < L.length := List.findIdx_lt_length_of_exists ⟨f, hm, by simp⟩
    refine in_yes f _ L.length (L.findIdx fun z => z == f) (fun i => L.getD i 0) _ hL hc hlt ?_ (fun j hj he => ?_)
    · have := List.findIdx_getElem (w := hlt)
      rw [List.getD_eq_getElem?_getD, List.getElem?_eq_getElem hlt]
      simpa using this
    · have h2 := List.not_of_lt_findIdx hj
      rw [List.getD_eq_getElem?_getD, List.getElem?_eq_getElem (by omega)] at he
      simp at he h2
      exact h2 he
end Go.Proofs.YtooaafbdjnlmfaaDoor
