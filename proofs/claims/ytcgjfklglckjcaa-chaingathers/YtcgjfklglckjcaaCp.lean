/- The bytes that a chain names, in plain lists. -/
import Derived.Test.YtcgjfklglckjcaaCa
namespace Go.Proofs.Ytcgjfklglckjcaa
open Go.RowKit Go.Maps
set_option linter.unusedVariables false
set_option linter.unusedSimpArgs false
set_option maxRecDepth 100000
/-- the addresses of all that is to be read, or written -/
def addrs (b : Bool) (l : List Seg) : List Nat := l.flatMap fun s => if s.wr = b then (List.range s.l).map (s.a + ·) else []
def sizeN (b : Bool) (l : List Seg) : Nat := (l.map fun s => if s.wr = b then s.l else 0).sum
theorem addrs_length (b : Bool) (l : List Seg) : (addrs b l).length = sizeN b l := by
  induction l with
  | nil => rfl
  | cons s l ih =>
    have e : addrs b (s :: l) = (if s.wr = b then (List.range s.l).map (s.a + ·) else []) ++ addrs b l := by simp [addrs]
    have e2 : sizeN b (s :: l) = (if s.wr = b then s.l else 0) + sizeN b l := by simp [sizeN]
    rw [e, e2, List.length_append, ih]
    split <;> simp
theorem sizeN_cons (b : Bool) (s : Seg) (l : List Seg) : sizeN b (s :: l) = (if s.wr = b then s.l else 0) + sizeN b l := by simp [sizeN]
theorem addrs_cons (b : Bool) (s : Seg) (l : List Seg) : addrs b (s :: l) = (if s.wr = b then (List.range s.l).map (s.a + ·) else []) ++ addrs b l := by simp [addrs]
theorem sizeN_take (b : Bool) (l : List Seg) (i : Nat) (hi : i < l.length) : sizeN b (l.take (i + 1)) = sizeN b (l.take i) + (if (l[i]).wr = b then (l[i]).l else 0) := by
  rw [List.take_add_one, List.getElem?_eq_getElem hi]
  simp only [sizeN, List.map_append, List.sum_append, Option.toList_some, List.map_cons, List.map_nil, List.sum_cons, List.sum_nil, Nat.add_zero]
theorem sizeN_le (b : Bool) (l : List Seg) (h : ∀ s ∈ l, SegOk s) : sizeN b l ≤ l.length * 8192 := by
  induction l with
  | nil => simp [sizeN]
  | cons s l ih =>
    have h1 := ih (fun x hx => h x (List.mem_cons_of_mem _ hx))
    have h2 := (h s (List.mem_cons_self)).l
    rw [sizeN_cons, List.length_cons]
    split <;> omega
def pcs (b : Bool) : List Seg → Nat → Nat → List (Nat × Nat) × Nat × Nat
  | [], f, n => ([], f, n)
  | s :: l, f, n => if s.wr = b then ((if min n (s.l - min f s.l) = 0 then (pcs b l (f - min f s.l) (n - min n (s.l - min f s.l))).1 else (s.a + min f s.l, min n (s.l - min f s.l)) :: (pcs b l (f - min f s.l) (n - min n (s.l - min f s.l))).1), (pcs b l (f - min f s.l) (n - min n (s.l - min f s.l))).2) else pcs b l f n
theorem pcs_other {b : Bool} {s : Seg} {l : List Seg} {f n : Nat} (h : ¬ s.wr = b) : pcs b (s :: l) f n = pcs b l f n := by simp [pcs, h]
theorem pcs_none {b : Bool} {s : Seg} {l : List Seg} {f n sk tk : Nat} (h : s.wr = b) (h1 : sk = min f s.l) (h2 : tk = min n (s.l - sk)) (h0 : tk = 0) : pcs b (s :: l) f n = pcs b l (f - sk) (n - tk) := by
  subst h1
  rw [h0] at h2
  subst h0
  simp only [pcs, h, if_true, ← h2]
theorem pcs_some {b : Bool} {s : Seg} {l : List Seg} {f n sk tk : Nat} (h : s.wr = b) (h1 : sk = min f s.l) (h2 : tk = min n (s.l - sk)) (h0 : ¬ tk = 0) : pcs b (s :: l) f n = ((s.a + sk, tk) :: (pcs b l (f - sk) (n - tk)).1, (pcs b l (f - sk) (n - tk)).2) := by
  subst h1 h2
  simp only [pcs, h, if_true, h0, if_false]
theorem pcs_rest (b : Bool) : ∀ (l : List Seg) (f n : Nat), (pcs b l f n).2 = (f - sizeN b l, n - (sizeN b l - f)) := by
  intro l
  induction l with
  | nil => intro f n; simp [pcs, sizeN]
  | cons s l ih =>
    intro f n
    rw [sizeN_cons]
    by_cases h : s.wr = b
    · simp only [pcs, h, if_true]
      rw [ih]
      simp only [Prod.mk.injEq]
      omega
    · rw [pcs_other h, ih, if_neg h, Nat.zero_add]
def spanA (ps : List (Nat × Nat)) : List Nat := ps.flatMap fun p => (List.range p.2).map (p.1 + ·)
theorem spanA_cons (p : Nat × Nat) (l : List (Nat × Nat)) : spanA (p :: l) = (List.range p.2).map (p.1 + ·) ++ spanA l := by simp [spanA]
theorem spanA_append (k l : List (Nat × Nat)) : spanA (k ++ l) = spanA k ++ spanA l := by simp [spanA]
theorem range_cut (a L f n : Nat) : ((((List.range L).map (a + ·)).drop f).take n) = (List.range (min n (L - f))).map (a + f + ·) := by
  apply List.ext_getElem?
  intro i
  simp only [List.getElem?_take, List.getElem?_drop, List.getElem?_map, List.getElem?_range']
  by_cases h : i < min n (L - f)
  · rw [if_pos (by omega), List.getElem?_range (by omega), List.getElem?_range h]
    simp; omega
  · rw [List.getElem?_eq_none (l := List.range (min n (L - f))) (by simp; omega)]
    split
    · rw [List.getElem?_eq_none (by simp; omega)]; rfl
    · rfl
theorem pcs_span (b : Bool) : ∀ (l : List Seg) (f n : Nat), spanA (pcs b l f n).1 = ((addrs b l).drop f).take n := by
  intro l
  induction l with
  | nil => intro f n; simp [pcs, addrs, spanA]
  | cons s l ih =>
    intro f n
    rw [addrs_cons]
    by_cases h : s.wr = b
    · rw [if_pos h, List.drop_append, List.take_append, range_cut]
      have e1 : f - ((List.range s.l).map (s.a + ·)).length = f - min f s.l := by simp; omega
      have e2 : n - (((List.range s.l).map (s.a + ·)).drop f).length = n - min n (s.l - min f s.l) := by simp; omega
      rw [e1, e2, ← ih]
      have e3 : min n (s.l - f) = min n (s.l - min f s.l) := by omega
      rw [e3]
      by_cases h0 : min n (s.l - min f s.l) = 0
      · rw [pcs_none h rfl rfl h0, h0]; simp
      · rw [pcs_some h rfl rfl h0, spanA_cons]
        have e4 : min f s.l = f := by omega
        simp only [e4]
    · rw [if_neg h, List.nil_append, pcs_other h]
      exact ih f n
theorem pcs_ok {b : Bool} {l : List Seg} (h : ∀ s ∈ l, SegOk s) : ∀ (f n : Nat), ∀ p ∈ (pcs b l f n).1, inB p.1 p.2 2147483648 8192 = true ∧ 0 < p.2 ∧ p.1 < 18446744073709551616 ∧ p.2 ≤ 8192 := by
  induction l with
  | nil => intro f n p hp; simp [pcs] at hp
  | cons s l ih =>
    intro f n p hp
    have ih2 := ih (fun x hx => h x (List.mem_cons_of_mem _ hx))
    by_cases hb : s.wr = b
    · by_cases h0 : min n (s.l - min f s.l) = 0
      · rw [pcs_none hb rfl rfl h0] at hp
        exact ih2 _ _ p hp
      · rw [pcs_some hb rfl rfl h0] at hp
        rcases List.mem_cons.1 hp with rfl | hp
        · have hs := h s List.mem_cons_self
          have h1 := in_len hs.i
          have h3 : min f s.l + min n (s.l - min f s.l) ≤ s.l := by omega
          refine ⟨?_, by simp only; omega, by simp only; omega, by simp only; omega⟩
          simp only [inB, Bool.and_eq_true, decide_eq_true_iff]
          omega
        · exact ih2 _ _ p hp
    · rw [pcs_other hb] at hp
      exact ih2 _ _ p hp
theorem pcs_len (b : Bool) : ∀ (l : List Seg) (f n : Nat), (pcs b l f n).1.length ≤ l.length := by
  intro l
  induction l with
  | nil => intro f n; simp [pcs]
  | cons s l ih =>
    intro f n
    by_cases hb : s.wr = b
    · by_cases h0 : min n (s.l - min f s.l) = 0
      · rw [pcs_none hb rfl rfl h0]
        have := ih (f - min f s.l) (n - min n (s.l - min f s.l))
        simp only [List.length_cons]
        omega
      · rw [pcs_some hb rfl rfl h0]
        have := ih (f - min f s.l) (n - min n (s.l - min f s.l))
        simp only [List.length_cons]
        omega
    · rw [pcs_other hb]
      have := ih f n
      simp only [List.length_cons]
      omega
/-- is there so much? -/
def roomB (b : Bool) (l : List Seg) (f n : Nat) : Bool := decide (f ≤ sizeN b l ∧ n ≤ sizeN b l - f)
theorem room_iff (b : Bool) (l : List Seg) (f n : Nat) : roomB b l f n = true ↔ (pcs b l f n).2 = (0, 0) := by
  rw [pcs_rest]
  simp only [roomB, decide_eq_true_iff, Prod.mk.injEq]
  omega
end Go.Proofs.Ytcgjfklglckjcaa
