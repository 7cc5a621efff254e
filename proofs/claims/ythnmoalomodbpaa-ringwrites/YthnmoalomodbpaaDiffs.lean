/- The pieces at which two memories differ: plain facts. -/
import Derived.Test.YthnmoalomodbpaaSameW
namespace Go.Proofs.Ythnmoalomodbpaa
open Go.RowKit Go.Maps
set_option linter.unusedVariables false
/-- the pieces of addresses that rise -/
def spans (A : List Nat) : List (Nat × Nat) := A.foldl stretchL []
theorem spans_snoc (A : List Nat) (x : Nat) : spans (A ++ [x]) = stretchL (spans A) x := by simp [spans]
theorem stretchL_cases (l : List (Nat × Nat)) (x : Nat) : stretchL l x = l ++ [(x, 1)] ∨ ∃ r p L, l = r ++ [(p, L)] ∧ p + L = x ∧ stretchL l x = r ++ [(p, L + 1)] := by
  rcases List.eq_nil_or_concat l with rfl | ⟨r, ⟨p, L⟩, rfl⟩
  · exact .inl rfl
  · rw [List.concat_eq_append]
    by_cases h : p + L = x
    · subst h; exact .inr ⟨r, p, L, rfl, rfl, stretchL_join r p L⟩
    · exact .inl (stretchL_new r p L x h)
theorem stretchL_len (l : List (Nat × Nat)) (x : Nat) : l.length ≤ (stretchL l x).length ∧ (stretchL l x).length ≤ l.length + 1 := by
  rcases stretchL_cases l x with h | ⟨r, p, L, rfl, _, h⟩ <;> rw [h] <;> simp
theorem stretchL_take (l : List (Nat × Nat)) (x m : Nat) (h : m < l.length) : (stretchL l x).take m = l.take m := by
  rcases stretchL_cases l x with h1 | ⟨r, p, L, rfl, _, h1⟩
  · rw [h1, List.take_append_of_le_length (by omega)]
  · rw [h1, List.take_append_of_le_length (by simp at h; omega), List.take_append_of_le_length (by simp at h; omega)]
theorem fold_take (A : List Nat) : ∀ (l : List (Nat × Nat)) (m : Nat), m < l.length → (A.foldl stretchL l).take m = l.take m := by
  induction A with
  | nil => intro l m h; rfl
  | cons x A ih =>
    intro l m h
    rw [List.foldl_cons, ih _ _ (Nat.lt_of_lt_of_le h (stretchL_len l x).1), stretchL_take l x m h]
/-- once there are more pieces than m, the first m stay -/
theorem spans_take (A C : List Nat) (m : Nat) (h : m < (spans A).length) : (spans (A ++ C)).take m = (spans A).take m := by
  unfold spans at *
  rw [List.foldl_append]
  exact fold_take C _ m h
theorem spans_len (A : List Nat) : (spans A).length ≤ A.length := by
  unfold spans
  suffices h : ∀ l : List (Nat × Nat), (A.foldl stretchL l).length ≤ l.length + A.length by simpa using h []
  induction A with
  | nil => intro l; simp
  | cons x A ih =>
    intro l
    have h1 := ih (stretchL l x)
    have h2 := (stretchL_len l x).2
    simp at h1 ⊢
    omega
theorem spans_top (A : List Nat) (M : Nat) (h : ∀ a ∈ A, a < M) : ∀ p ∈ spans A, p.1 + p.2 ≤ M := by
  unfold spans
  suffices hh : ∀ l : List (Nat × Nat), (∀ p ∈ l, p.1 + p.2 ≤ M) → (∀ a ∈ A, a < M) → ∀ p ∈ A.foldl stretchL l, p.1 + p.2 ≤ M from hh [] (by simp) h
  clear h
  induction A with
  | nil => intro l h _; exact h
  | cons x A ih =>
    intro l hl hA
    refine ih (stretchL l x) ?_ (fun a ha => hA a (by simp [ha]))
    have hx := hA x (by simp)
    intro p hp
    rcases stretchL_cases l x with h1 | ⟨r, q, L, rfl, he, h1⟩ <;> rw [h1] at hp
    · rcases List.mem_append.1 hp with hp | hp
      · exact hl p hp
      · simp at hp; subst hp; simp; omega
    · rcases List.mem_append.1 hp with hp | hp
      · exact hl p (by simp [hp])
      · simp at hp; subst hp; simp; omega
/-- the addresses below n of a page at which two memories differ -/
def diffsIn (Ma Mb : Nat → Nat) (k n : Nat) : List Nat := ((List.range n).filter fun i => Ma (k * 4096 + i) != Mb (k * 4096 + i)).map fun i => k * 4096 + i
theorem diffsIn_zero (Ma Mb : Nat → Nat) (k : Nat) : diffsIn Ma Mb k 0 = [] := rfl
theorem diffsIn_same (Ma Mb : Nat → Nat) (k n : Nat) (h : Ma (k * 4096 + n) = Mb (k * 4096 + n)) : diffsIn Ma Mb k (n + 1) = diffsIn Ma Mb k n := by
  unfold diffsIn
  rw [List.range_succ, List.filter_append]
  simp [h]
theorem diffsIn_new (Ma Mb : Nat → Nat) (k n : Nat) (h : Ma (k * 4096 + n) ≠ Mb (k * 4096 + n)) : diffsIn Ma Mb k (n + 1) = diffsIn Ma Mb k n ++ [k * 4096 + n] := by
  unfold diffsIn
  rw [List.range_succ, List.filter_append]
  simp [h]
theorem diffsIn_mem (Ma Mb : Nat → Nat) (k n x : Nat) : x ∈ diffsIn Ma Mb k n ↔ ∃ i, i < n ∧ Ma (k * 4096 + i) ≠ Mb (k * 4096 + i) ∧ x = k * 4096 + i := by
  unfold diffsIn
  simp only [List.mem_map, List.mem_filter, List.mem_range, bne_iff_ne]
  constructor
  · rintro ⟨i, ⟨h1, h2⟩, rfl⟩; exact ⟨i, h1, h2, rfl⟩
  · rintro ⟨i, h1, h2, rfl⟩; exact ⟨i, ⟨h1, h2⟩, rfl⟩
theorem diffsIn_len (Ma Mb : Nat → Nat) (k n : Nat) : (diffsIn Ma Mb k n).length ≤ n := by
  unfold diffsIn
  rw [List.length_map]
  exact Nat.le_trans (List.length_filter_le _ _) (by simp)
/-- .. of all pages of a list -/
def diffs (Ma Mb : Nat → Nat) (ks : List Nat) : List Nat := ks.flatMap fun k => diffsIn Ma Mb k 4096
theorem diffs_snoc (Ma Mb : Nat → Nat) (ks : List Nat) (k : Nat) : diffs Ma Mb (ks ++ [k]) = diffs Ma Mb ks ++ diffsIn Ma Mb k 4096 := by simp [diffs]
theorem diffs_len (Ma Mb : Nat → Nat) (ks : List Nat) : (diffs Ma Mb ks).length ≤ 4096 * ks.length := by
  unfold diffs
  induction ks with
  | nil => simp
  | cons k ks ih =>
    have := diffsIn_len Ma Mb k 4096
    simp at ih ⊢
    omega
theorem diffs_mem (Ma Mb : Nat → Nat) (ks : List Nat) (x : Nat) : x ∈ diffs Ma Mb ks ↔ x / 4096 ∈ ks ∧ Ma x ≠ Mb x := by
  unfold diffs
  simp only [List.mem_flatMap, diffsIn_mem]
  constructor
  · rintro ⟨k, hk, i, hi, hne, rfl⟩
    exact ⟨by rw [show (k * 4096 + i) / 4096 = k from by omega]; exact hk, hne⟩
  · rintro ⟨hk, hne⟩
    exact ⟨x / 4096, hk, x % 4096, Nat.mod_lt _ (by decide), by rw [show x / 4096 * 4096 + x % 4096 = x from by omega]; exact hne, by omega⟩
theorem pairwise_range (n : Nat) : (List.range n).Pairwise (· < ·) := List.pairwise_lt_range
theorem diffsIn_rise (Ma Mb : Nat → Nat) (k n : Nat) : (diffsIn Ma Mb k n).Pairwise (· < ·) := by
  unfold diffsIn
  rw [List.pairwise_map]
  exact ((pairwise_range n).filter _).imp (fun h => by omega)
theorem diffs_rise (Ma Mb : Nat → Nat) (ks : List Nat) (h : ks.Pairwise (· < ·)) : (diffs Ma Mb ks).Pairwise (· < ·) := by
  unfold diffs
  induction ks with
  | nil => simp
  | cons k ks ih =>
    rw [List.pairwise_cons] at h
    rw [List.flatMap_cons, List.pairwise_append]
    refine ⟨diffsIn_rise Ma Mb k 4096, ih h.2, fun a ha b hb => ?_⟩
    obtain ⟨i, hi, _, rfl⟩ := (diffsIn_mem Ma Mb k 4096 a).1 ha
    obtain ⟨k', hk', hb'⟩ := List.mem_flatMap.1 hb
    obtain ⟨j, hj, _, rfl⟩ := (diffsIn_mem Ma Mb k' 4096 b).1 hb'
    have := h.1 k' hk'
    omega
/-- lists that rise and have the same members are one -/
theorem rise_one : ∀ (A C : List Nat), A.Pairwise (· < ·) → C.Pairwise (· < ·) → (∀ x, x ∈ A ↔ x ∈ C) → A = C
  | [], [], _, _, _ => rfl
  | [], c :: C, _, _, h => by have := (h c).2 (by simp); simp at this
  | a :: A, [], _, _, h => by have := (h a).1 (by simp); simp at this
  | a :: A, c :: C, hA, hC, h => by
    rw [List.pairwise_cons] at hA hC
    have e : a = c := by
      rcases List.mem_cons.1 ((h a).1 (by simp)) with h1 | h1
      · exact h1
      · rcases List.mem_cons.1 ((h c).2 (by simp)) with h2 | h2
        · exact h2.symm
        · have := hA.1 c h2; have := hC.1 a h1; omega
    subst e
    rw [rise_one A C hA.2 hC.2 (fun x => by
      constructor
      · intro hx
        rcases List.mem_cons.1 ((h x).1 (by simp [hx])) with h1 | h1
        · subst h1; have := hA.1 x hx; omega
        · exact h1
      · intro hx
        rcases List.mem_cons.1 ((h x).2 (by simp [hx])) with h1 | h1
        · subst h1; have := hC.1 x hx; omega
        · exact h1)]
end Go.Proofs.Ythnmoalomodbpaa
