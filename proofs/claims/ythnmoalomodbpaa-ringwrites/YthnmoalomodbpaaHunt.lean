/- The call unlike of layer 2, its two rounds: the numbers of pages that were found so far. -/
import Derived.Test.YthnmoalomodbpaaStretch
namespace Go.Proofs.Ythnmoalomodbpaa
open Go.RowKit Go.Maps
set_option linter.unusedVariables false
def numRow (ks : List Nat) : List Value := ks.map fun k => .int .u64 (k : Nat)
theorem numRow_snoc (ks : List Nat) (k : Nat) : numRow (ks ++ [k]) = numRow ks ++ [.int .u64 (k : Nat)] := by simp [numRow]
/-- numbers, as a list that lies in blocks from B on -/
def Nums (B : Nat) (w : World) (v : Value) (ks : List Nat) : Prop := w.ownsRow B 22 1 v ks.length (numRow ks)
theorem Nums.kept {B : Nat} {w w' : World} {v : Value} {ks : List Nat} (h : Nums B w v ks) (hk : ∀ g, v.ownBlock = some g → w'.heap[g]? = w.heap[g]?) : Nums B w' v ks := by
  refine ⟨h.1, ?_⟩
  rcases h.2 with hn | ⟨g, cap, cur, rfl, hb, hgg, rest⟩
  · exact .inl hn
  · exact .inr ⟨g, cap, cur, rfl, hb, (hk g rfl).trans hgg, rest⟩
theorem Nums.form {B : Nat} {w : World} {v : Value} {ks : List Nat} (h : Nums B w v ks) : ∃ a c, v = .slice a ks.length c := by
  rcases h.2 with ⟨rfl, h0⟩ | ⟨g, cap, cur, rfl, _⟩
  · exact ⟨none, 0, by rw [h0]⟩
  · exact ⟨_, cap, rfl⟩
theorem grown_none {w w' : World} (h : Below w.heap.size w w') : w.grownBy w' none := ⟨h.os, h.tape, h.output, h.size, fun k hk _ => h.block k hk⟩
/-- under way over the pages of a map: those told by O were found before, those that T tells are looked for -/
def Hunting (w wr : World) (bm r n N : Nat) (D : DataW Unit) (pg : Nat → Option Nat) (O T : Nat → Prop) (v : Value) (left : Lit → Bool) (cnt : Nat) (ks : List Nat) : Prop :=
  wr.ranges Try.prog 22 ptrElem bm r n D left cnt ∧ Nums w.heap.size wr v ks ∧ Below w.heap.size w wr ∧ w.heap.size ≤ r ∧ (∀ g, v.ownBlock = some g → g ≠ r) ∧ ks.Nodup ∧ ks.length + cnt ≤ N ∧ (∀ k ∈ ks, k < 18446744073709551616) ∧
    (∀ k : Nat, k ∈ ks ↔ O k ∨ ((pg k).isSome = true ∧ left (.int .u64 (k : Nat)) = false ∧ T k))
/-- a page has come, and other memory was made meanwhile -/
theorem hunting_next {w wr w1 w2 : World} {bm r n N : Nat} {D : DataW Unit} {pg : Nat → Option Nat} {O T : Nat → Prop} {v : Value} {left left' : Lit → Bool} {cnt cnt' : Nat} {ks : List Nat} (h : Hunting w wr bm r n N D pg O T v left cnt ks) (hbm : bm < w.heap.size)
    (hrg : w1.ranges Try.prog 22 ptrElem bm r n D left' cnt') (hg : wr.grownBy w1 (some r)) (h2 : Below w1.heap.size w1 w2) :
    w2.ranges Try.prog 22 ptrElem bm r n D left' cnt' ∧ Nums w.heap.size w2 v ks ∧ Below w.heap.size w w2 := by
  obtain ⟨p1, p2, p3, p4, p5, p6⟩ := h
  have hB1 : Below w.heap.size w w1 := Below.grown p3 hg p3.size (fun q hq => by cases hq; exact p4)
  refine ⟨hrg.kept (grown_none h2) (by simp) (by simp), ?_, hB1.trans ⟨h2.os, h2.tape, h2.output, h2.size, fun k hk => h2.block k (by have := hB1.size; omega)⟩⟩
  refine (p2.kept (w' := w1) fun g hgg => hg.block g (World.ownsRow.lt p2 g hgg).2 (fun e => p5 g hgg (by cases e; rfl))).kept fun g hgg => h2.block g ?_
  have := (World.ownsRow.lt p2 g hgg).2
  have := hg.size
  omega
theorem left_step {left : Lit → Bool} {k : Nat} (hk : k < 18446744073709551616) (j : Nat) : (left (.int .u64 (j : Nat)) && !(Lit.int .u64 (j : Nat)).sameKey (.int .u64 (k : Nat))) = false ↔ left (.int .u64 (j : Nat)) = false ∨ j = k := by
  rw [lit_same hk]
  by_cases e : j = k <;> simp [e]
theorem hunting_skip {w wr w1 w2 : World} {bm r n N : Nat} {D : DataW Unit} {pg : Nat → Option Nat} {O T : Nat → Prop} {v : Value} {left : Lit → Bool} {cnt cnt' : Nat} {ks : List Nat} (h : Hunting w wr bm r n N D pg O T v left cnt ks) (hbm : bm < w.heap.size) {k : Nat} (hk : k < 18446744073709551616) (hT : ¬ T k) (hlt : cnt' < cnt)
    (hrg : w1.ranges Try.prog 22 ptrElem bm r n D (fun z => left z && !z.sameKey (.int .u64 (k : Nat))) cnt') (hg : wr.grownBy w1 (some r)) (h2 : Below w1.heap.size w1 w2) :
    Hunting w w2 bm r n N D pg O T v (fun z => left z && !z.sameKey (.int .u64 (k : Nat))) cnt' ks := by
  obtain ⟨q1, q2, q3⟩ := hunting_next h hbm hrg hg h2
  obtain ⟨p1, p2, p3, p4, p5, p6, p7, p8, p9⟩ := h
  refine ⟨q1, q2, q3, p4, p5, p6, by omega, p8, fun j => ?_⟩
  rw [p9 j, left_step hk]
  constructor
  · rintro (h | ⟨a, b, c⟩)
    · exact .inl h
    · exact .inr ⟨a, .inl b, c⟩
  · rintro (h | ⟨a, b | rfl, c⟩)
    · exact .inl h
    · exact .inr ⟨a, b, c⟩
    · exact absurd c hT
theorem hunting_take {w wr w1 w2 w3 : World} {bm r n N : Nat} {D : DataW Unit} {pg : Nat → Option Nat} {O T : Nat → Prop} {v v' : Value} {left : Lit → Bool} {cnt cnt' : Nat} {ks : List Nat} (h : Hunting w wr bm r n N D pg O T v left cnt ks) (hbm : bm < w.heap.size) (hO : ∀ k, O k → ¬ ((pg k).isSome = true ∧ T k)) {k : Nat} (hk : k < 18446744073709551616) (hlk : left (.int .u64 (k : Nat)) = true) (hpk : (pg k).isSome = true) (hT : T k) (hlt : cnt' < cnt)
    (hrg : w1.ranges Try.prog 22 ptrElem bm r n D (fun z => left z && !z.sameKey (.int .u64 (k : Nat))) cnt') (hg : wr.grownBy w1 (some r)) (h2 : Below w1.heap.size w1 w2)
    (hown : Nums w.heap.size w3 v' (ks ++ [k])) (hg3 : w2.grownBy w3 v.ownBlock) (hat : v'.ownBlock = v.ownBlock ∨ ∃ g, v'.ownBlock = some g ∧ w2.heap.size ≤ g) :
    Hunting w w3 bm r n N D pg O T v' (fun z => left z && !z.sameKey (.int .u64 (k : Nat))) cnt' (ks ++ [k]) := by
  obtain ⟨q1, q2, q3⟩ := hunting_next h hbm hrg hg h2
  obtain ⟨p1, p2, p3, p4, p5, p6, p7, p8, p9⟩ := h
  have hv : ∀ g, v.ownBlock = some g → w.heap.size ≤ g := fun g hgg => (World.ownsRow.lt p2 g hgg).1
  have hnk : k ∉ ks := by
    rw [p9 k]
    rintro (h | ⟨a, b, c⟩)
    · exact hO k h ⟨hpk, hT⟩
    · rw [hlk] at b; cases b
  refine ⟨q1.kept hg3 (fun e => ?_) (fun e => p5 r e.symm rfl), hown, Below.grown q3 hg3 q3.size hv, p4, ?_, ?_, ?_, ?_, fun j => ?_⟩
  · have := hv bm e.symm; omega
  · intro g hgg
    rcases hat with e | ⟨g', e, hl⟩
    · exact p5 g (by rw [← e, hgg])
    · rw [hgg] at e; cases e; have := q1.lt; omega
  · rw [List.nodup_append]
    exact ⟨p6, by simp, fun a ha b hb e => by simp at hb; subst hb; subst e; exact hnk ha⟩
  · simp; omega
  · intro j hj
    rcases List.mem_append.1 hj with hj | hj
    · exact p8 j hj
    · simp at hj; omega
  · rw [List.mem_append, p9 j, left_step hk]
    constructor
    · rintro ((h | ⟨a, b, c⟩) | h)
      · exact .inl h
      · exact .inr ⟨a, .inl b, c⟩
      · simp at h; subst h; exact .inr ⟨hpk, .inr rfl, hT⟩
    · rintro (h | ⟨a, b | rfl, c⟩)
      · exact .inl (.inl h)
      · exact .inl (.inr ⟨a, b, c⟩)
      · exact .inr (by simp)
end Go.Proofs.Ythnmoalomodbpaa
