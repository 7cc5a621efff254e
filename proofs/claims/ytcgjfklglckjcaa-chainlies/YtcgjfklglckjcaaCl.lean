/- The order and the number of a chain's segments. -/
import Derived.Test.YtcgjfklglckjcaaCa
namespace Go.Proofs.Ytcgjfklglckjcaa
open Go.RowKit Go.Maps
set_option linter.unusedVariables false
set_option linter.unusedSimpArgs false
set_option maxRecDepth 100000
/-- behind one that is to be written all are -/
def Ordd (l : List Seg) : Prop := ∀ i (h : i + 1 < l.length), (l[i]).wr = true → (l[i + 1]).wr = true
theorem ordd_nil : Ordd [] := fun i h => by simp at h
theorem ordd_snoc {l : List Seg} {s : Seg} (h : Ordd l) (hs : (lastW l && !s.wr) = false) : Ordd (l ++ [s]) := by
  intro i hi hw
  simp only [List.length_append, List.length_singleton] at hi
  by_cases h1 : i + 1 < l.length
  · rw [List.getElem_append_left (by omega)] at hw
    rw [List.getElem_append_left h1]
    exact h i h1 hw
  · have h2 : i + 1 = l.length := by omega
    rw [List.getElem_append_left (by omega)] at hw
    rw [List.getElem_append_right (by omega)]
    have hl : lastW l = (l[i]'(by omega)).wr := by
      have : l.getLast? = some (l[i]'(by omega)) := by rw [List.getLast?_eq_getElem?, show l.length - 1 = i from by omega]; simp
      simp [lastW, this]
    rw [hl, hw] at hs
    simpa [h2] using hs
theorem along_ordd {M : Nat → Nat} (t n : Nat) : ∀ (k : Nat) (i : Int) (l : List Seg), Ordd l → Ordd (alongR M t n k i l).l ∧ ((alongR M t n k i l).e = 0 → fl (alongR M t n k i l).d.f 4 = true → (alongR M t n k i l).l.length + 1 ≤ l.length + k) := by
  intro k
  induction k with
  | zero =>
    intro i l hl
    unfold alongR
    split
    · exact ⟨hl, fun h => by cases h⟩
    · exact ⟨hl, fun h => by cases h⟩
  | succ k ih =>
    intro i l hl
    by_cases hi : 0 ≤ i ∧ i < n
    · obtain ⟨j, rfl⟩ : ∃ j : Nat, i = j := ⟨i.toNat, by omega⟩
      cases h1 : deB t j with
      | false => rw [along_not (by omega) h1]; exact ⟨hl, fun h => by cases h⟩
      | true =>
        obtain ⟨d, hd⟩ : ∃ d, deN M t j = d := ⟨_, rfl⟩
        cases h2 : fl d.f 4 with
        | true => rw [along_ind (by omega) h1 hd h2]; exact ⟨hl, fun _ _ => by show l.length + 1 ≤ _; omega⟩
        | false =>
          by_cases h3 : addE l d = 0
          · have hl2 : Ordd (l ++ [d.seg]) := ordd_snoc hl (addE_in h3).2
            cases h4 : fl d.f 1 with
            | false => rw [along_end (by omega) h1 hd h2 h3 h4]; exact ⟨hl2, fun _ h => by rw [show fl d.f 4 = false from h2] at h; cases h⟩
            | true =>
              rw [along_next (by omega) h1 hd h2 h3 h4]
              have := ih (d.x : Int) (l ++ [d.seg]) hl2
              refine ⟨this.1, fun a b => ?_⟩
              have h5 := this.2 a b
              simp at h5
              omega
          · rw [along_err (by omega) h1 hd h2 rfl h3]; exact ⟨hl, fun h => absurd h h3⟩
    · rw [along_out hi]; exact ⟨hl, fun h => by cases h⟩
theorem walk_ordd {M : Nat → Nat} (hM : ∀ a, M a ≤ 255) (D n : Nat) (hn : n ≤ 256) (h : Int) (al : Bool) : Ordd (walkR M D n h al).l ∧ (walkR M D n h al).l.length ≤ 511 := by
  obtain ⟨r, hr⟩ : ∃ r, alongR M D n n h [] = r := ⟨_, rfl⟩
  have h1 := along_ordd (M := M) D n n h [] ordd_nil
  have h0 := along_all hM D n n h [] (by simp)
  rw [hr] at h1 h0
  simp only [List.length_nil, Nat.zero_add] at h1 h0
  by_cases he : r.e = 0
  · cases hf : fl r.d.f 4 with
    | false => rw [walk_plain hr he hf]; exact ⟨h1.1, by show r.l.length ≤ 511; omega⟩
    | true =>
      by_cases ht : tabE r.d al = 0
      · obtain ⟨s, hs⟩ : ∃ s, alongR M r.d.a (r.d.l / 16) (r.d.l / 16) 0 r.l = s := ⟨_, rfl⟩
        have h2 := along_ordd (M := M) r.d.a (r.d.l / 16) (r.d.l / 16) 0 r.l h1.1
        have h20 := along_all hM r.d.a (r.d.l / 16) (r.d.l / 16) 0 r.l h0.1
        rw [hs] at h2 h20
        obtain ⟨t1, t2, t3, t4, t5, t6⟩ := tab_in ht
        by_cases h3 : s.e = 0
        · cases h4 : fl s.d.f 4 with
          | true => rw [walk_nest hr he hf ht hs h3 h4]; exact ⟨ordd_nil, Nat.zero_le _⟩
          | false => rw [walk_two hr he hf ht hs h3 h4]; exact ⟨h2.1, by show s.l.length ≤ 511; have := h1.2 he hf; have := h20.2.2; omega⟩
        · rw [walk_err2 hr he hf ht hs h3]; exact ⟨ordd_nil, Nat.zero_le _⟩
      · rw [walk_tab hr he hf rfl ht]; exact ⟨ordd_nil, Nat.zero_le _⟩
  · rw [walk_err hr he]; exact ⟨ordd_nil, Nat.zero_le _⟩
end Go.Proofs.Ytcgjfklglckjcaa
