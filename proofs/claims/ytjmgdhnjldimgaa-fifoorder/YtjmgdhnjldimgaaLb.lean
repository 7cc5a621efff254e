/- What is taken is what came, in order: FifoOrder. -/
import Derived.Test.YtjmgdhnjldimgaaAw
import Derived.Test.YtjmgdhnjldimgaaOp
namespace Go.Proofs.Ytjmgdhnjldimgaa
open Go.RowKit
set_option linter.unusedVariables false
set_option linter.unusedSimpArgs false
set_option maxRecDepth 100000
/-- what is put to a list: nothing was written, or its own block -/
def Fr (w w' : World) (v : Value) (g : Nat) (l : List Nat) : Prop := (l = [] ∧ v = .slice none 0 0 ∧ Below w.heap.size w w') ∨ Upon g w w'
/-- nil, or a block that is there, none of two others -/
def Nb (w : World) (v : Value) (g : Nat) (l : List Nat) : Prop := (l = [] ∧ v = .slice none 0 0) ∨ g < w.heap.size
theorem wpList_append_fr {w : World} {ops : Array Oper} {rest : List Oper} {o : Oper} {a : Act} {Q : Exit → Act → World → Prop} {v x : Value} {g d : Nat} {l D : List Nat} (hgd : o.guard = none) (s y : Operand) (ho : o.op = .call { callee := .builtin .append, args := #[s, y], argTypes := #[25, 25] }) (hs : a.eval s = v) (hy : a.eval y = x) (h : WA w v g l) (hn : Nb w v g l) (hr : RL w x d D) (hL : l.length + D.length ≤ 1000000)
    (hK : ∀ v' w' g', Hid (WA w' v' g' (l ++ D) ∧ ((l = [] ∧ v = .slice none 0 0 ∧ Below w.heap.size w w' ∧ ((l ++ D = [] ∧ v' = .slice none 0 0) ∨ (w.heap.size ≤ g' ∧ g' < w'.heap.size))) ∨ (¬ (l = [] ∧ v = .slice none 0 0) ∧ Upon g w w' ∧ g < w.heap.size ∧ (g' = g ∨ (w.heap.size ≤ g' ∧ g' < w'.heap.size))))) → wpList Try.prog ops Q rest (a.put o.dst v') w') : wpList Try.prog ops Q (o :: rest) a w := by
  by_cases hq : l = [] ∧ v = .slice none 0 0
  · obtain ⟨rfl, rfl⟩ := hq
    refine wpList_append_wa (g := w.heap.size) (l := []) hgd s y ho hs hy (WA.nil w _) hr hL ?_
    intro v' w' g' h1 h2 h3
    have hb := h2.below (Nat.le_refl _) (Nat.le_refl _)
    rcases h1 with ⟨h0, rfl⟩ | ⟨cap, cur, hv, hh, h4⟩
    · exact hK _ w' g' ⟨.inl ⟨h0, rfl⟩, .inl ⟨rfl, rfl, hb, .inl ⟨h0, rfl⟩⟩⟩
    · exact hK v' w' g' ⟨.inr ⟨cap, cur, hv, hh, h4⟩, .inl ⟨rfl, rfl, hb, .inr ⟨by omega, (Array.getElem?_eq_some_iff.1 hh).1⟩⟩⟩
  · have hn := hn.resolve_left hq
    refine wpList_append_wa hgd s y ho hs hy h hr hL ?_
    intro v' w' g' h1 h2 h3
    exact hK v' w' g' ⟨h1, .inr ⟨hq, h2, hn, by omega⟩⟩
/-- the state of FifoOrder: the row, what came, what went -/
structure Or (W V : World) (fb g ga gw : Nat) (K : Fi) (A G : List Nat) (va vw : Value) : Prop where
  f : FifoAt V fb g K
  a : WA V va ga A
  w : WA V vw gw G
  b : Below W.heap.size W V
  n : W.heap.size ≤ fb ∧ W.heap.size ≤ g
  na : (A = [] ∧ va = .slice none 0 0) ∨ (W.heap.size ≤ ga ∧ ga < V.heap.size ∧ ga ≠ fb ∧ ga ≠ g)
  nw : (G = [] ∧ vw = .slice none 0 0) ∨ (W.heap.size ≤ gw ∧ gw < V.heap.size ∧ gw ≠ fb ∧ gw ≠ g)
  nn : (A = [] ∧ va = .slice none 0 0) ∨ (G = [] ∧ vw = .slice none 0 0) ∨ ga ≠ gw
theorem wa_two {w w' : World} {v : Value} {g a b : Nat} {l : List Nat} (h : WA w v g l) (ht : Two a b w w') (hn : (l = [] ∧ v = .slice none 0 0) ∨ (g ≠ a ∧ g ≠ b)) : WA w' v g l := by
  rcases hn with ⟨rfl, rfl⟩ | hn
  · exact WA.nil _ _
  · exact h.two ht hn.1 hn.2
section
variable {W V V' : World} {fb g g2 ga gw g' : Nat} {K K2 : Fi} {A G D : List Nat} {va vw v' : Value}
theorem Or.nb (h : Or W V fb g ga gw K A G va vw) : Nb V va ga A ∧ Nb V vw gw G := ⟨h.na.imp id (fun x => x.2.1), h.nw.imp id (fun x => x.2.1)⟩
/-- the row is another one -/
theorem Or.prog (h : Or W V fb g ga gw K A G va vw) (hf : FifoAt V' fb g2 K2) (ht : Two fb g V V') (hg : g2 = g ∨ V.heap.size ≤ g2) : Or W V' fb g2 ga gw K2 A G va vw := by
  have hs := ht.size
  have hb := h.b.size
  have hn := h.n
  refine ⟨hf, wa_two h.a ht (h.na.imp id (fun x => x.2.2)), wa_two h.w ht (h.nw.imp id (fun x => x.2.2)), h.b.trans (ht.below hn.1 hn.2 hb), ⟨hn.1, by omega⟩, h.na.imp id (fun x => ?_), h.nw.imp id (fun x => ?_), h.nn⟩
  · exact ⟨x.1, by omega, x.2.2.1, by omega⟩
  · exact ⟨x.1, by omega, x.2.2.1, by omega⟩
theorem Or.step (h : Or W V fb g ga gw K A G va vw) (hb : Below V.heap.size V V') : Or W V' fb g ga gw K A G va vw := h.prog (h.f.step hb) (Two.of_below hb) (.inl rfl)
/-- more came -/
theorem Or.came (h : Or W V fb g ga gw K A G va vw) (hx : WA V' v' g' (A ++ D)) (hy : (A = [] ∧ va = .slice none 0 0 ∧ Below V.heap.size V V' ∧ ((A ++ D = [] ∧ v' = .slice none 0 0) ∨ (V.heap.size ≤ g' ∧ g' < V'.heap.size))) ∨ (¬ (A = [] ∧ va = .slice none 0 0) ∧ Upon ga V V' ∧ ga < V.heap.size ∧ (g' = ga ∨ (V.heap.size ≤ g' ∧ g' < V'.heap.size)))) : Or W V' fb g g' gw K (A ++ D) G v' vw := by
  have hs := h.b.size
  have hl := h.f.lt
  rcases hy with ⟨h1, h2, hb, h3⟩ | ⟨hq, hu, h0, h3⟩
  · have hs2 := hb.size
    refine ⟨h.f.step hb, hx, h.w.step hb, h.b.trans (hb.mono hs), h.n, h3.imp id (fun x => ?_), h.nw.imp id (fun x => ⟨x.1, by omega, x.2.2⟩), ?_⟩
    · exact ⟨by omega, x.2, by omega, by omega⟩
    · rcases h3 with h3 | h3
      · exact .inl h3
      · exact .inr (h.nw.imp id (fun x => by omega))
  · have na := h.na.resolve_left hq
    have hs2 := hu.size
    have nn := h.nn.resolve_left hq
    refine ⟨h.f.upon hu (Ne.symm na.2.2.1) (Ne.symm na.2.2.2), hx, ?_, h.b.trans (hu.below na.1 hs), h.n, .inr ⟨by omega, by omega, by omega, by omega⟩, h.nw.imp id (fun x => ⟨x.1, by omega, x.2.2⟩), ?_⟩
    · rcases nn with ⟨rfl, rfl⟩ | nn
      · exact WA.nil _ _
      · exact h.w.upon hu (Ne.symm nn)
    · rcases nn with nn | nn
      · exact .inr (.inl nn)
      · rcases h.nw with x | x
        · exact .inr (.inl x)
        · exact .inr (.inr (by omega))
theorem Or.swap (h : Or W V fb g ga gw K A G va vw) : Or W V fb g gw ga K G A vw va := ⟨h.f, h.w, h.a, h.b, h.n, h.nw, h.na, by
  rcases h.nn with x | x | x
  · exact .inr (.inl x)
  · exact .inl x
  · exact .inr (.inr (Ne.symm x))⟩
end
/-- the numbers of FifoOrder -/
structure Nu (r i : Nat) (K : Fi) (A G : List Nat) : Prop where
  l : G ++ K.l = A
  t : K.taken = G.length
  r : K.room = r
  n : A.length ≤ 300 * i
section
variable {r i : Nat} {K : Fi} {A G : List Nat}
theorem Nu.put (h : Nu r i K A G) (D : List Nat) (hD : D.length ≤ 300) : (putK K D).l = K.l ++ D.take (putN K D) ∧ G ++ (putK K D).l = A ++ D.take (putN K D) ∧ (putK K D).taken = G.length ∧ (putK K D).room = r ∧ (A ++ D.take (putN K D)).length ≤ 300 * (i + 1) := by
  refine ⟨rfl, ?_, h.t, h.r, ?_⟩
  · show G ++ (K.l ++ _) = _
    rw [← List.append_assoc, h.l]
  · rw [List.length_append, List.length_take]
    have := h.n
    omega
theorem Nu.len (h : Nu r i K A G) : G.length ≤ A.length ∧ K.l.length ≤ A.length ∧ G.length + K.l.length = A.length := by
  have := congrArg List.length h.l
  rw [List.length_append] at this
  omega
theorem take_nu {r m : Nat} {K : Fi} {A G : List Nat} (h1 : G ++ K.l = A) (h2 : K.taken = G.length) (h3 : K.room = r) (h4 : A.length ≤ m) (hm : m ≤ 100000) (n : Int) : (G ++ tookL K n) ++ (takeK K n).l = A ∧ (takeK K n).taken = (G ++ tookL K n).length ∧ (takeK K n).room = r := by
  have hl := congrArg List.length h1
  rw [List.length_append] at hl
  have hk : tookN K n ≤ K.l.length := Nat.min_le_right _ _
  refine ⟨?_, ?_, h3⟩
  · show (G ++ K.l.take _) ++ K.l.drop _ = A
    rw [List.append_assoc, List.take_append_drop, h1]
  · show (K.taken + tookN K n) % 18446744073709551616 = _
    rw [List.length_append, tookL_length, h2, Nat.mod_eq_of_lt (by omega)]
theorem take_all {r : Nat} {K : Fi} (hK : K.Ok) (h3 : K.room = r) : tookL K r = K.l ∧ (takeK K r).l = [] := by
  have h1 := hK.len
  have e : tookN K r = K.l.length := by unfold tookN; omega
  refine ⟨?_, ?_⟩
  · unfold tookL
    rw [e, List.take_length]
  · show K.l.drop _ = []
    rw [e, List.drop_length]
end
end Go.Proofs.Ytjmgdhnjldimgaa
