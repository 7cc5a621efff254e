/- The statement of layer 2 on copies: the state of its round. -/
import Derived.Test.YtbodmgihoklhiaaApartW
namespace Go.Proofs.Ytbodmgihoklhiaa
open Go.RowKit Go.Maps
set_option linter.unusedVariables false
set_option linter.unusedSimpArgs false
theorem rget_out {bs : Nat → Nat × Nat} {n s a : Nat} (h : Rng bs n s) (ha : a < 2147483648 ∨ 2147483648 + s ≤ a) : rget bs n a = 0 := by
  rcases Nat.eq_zero_or_pos (rget bs n a) with h0 | h0
  · exact h0
  · obtain ⟨i, h1, h2⟩ := rget_touch bs n a (by omega)
    have := h i h1
    omega
/-- two memories of 8192 bytes differ in two pages at most -/
theorem two_pages {bs cs : Nat → Nat × Nat} {n m : Nat} {M Mc : Nat → Nat} (h1 : Rng bs n 8192) (h2 : Rng cs m 8192) (e1 : ∀ a, rget bs n a = M a) (e2 : ∀ a, rget cs m a = Mc a) : ∀ k, Apart M Mc k → k = 524288 ∨ k = 524289 := by
  rintro k ⟨i, hi, hne⟩
  by_cases h : k = 524288 ∨ k = 524289
  · exact h
  · exfalso
    apply hne
    rw [← e1, ← e2, rget_out h1 (by omega), rget_out h2 (by omega)]
/-- a memory, its copy with the document's one beside it, and the two boxes -/
def Cq (W V : World) (b8 b11 rb rc : Nat) (M : Nat → Nat) (bsw : Nat → Nat × Nat) (aw : Option Addr) (nw cw i : Nat) (ax : Option Addr) (nx cx : Nat) (y : Value) (ay : Option Addr) (ny cy : Nat) : Prop :=
  ∃ Fm Fc Mc, RamAt V Fm rb 8192 2000 (.pointer none) M ∧ RefIn Fc V (.slice aw nw cw) nw bsw ∧ Both Fc V rc 8192 (.slice ax nx cx) (2000 + 64 * i) Mc ∧ (∀ q, Fm q → ¬ Fc q) ∧ (∀ q, Fc q → W.heap.size ≤ q) ∧ ¬ Fc b8 ∧ ¬ Fc b11 ∧ ¬ Fm b8 ∧ ¬ Fm b11 ∧
    V.heap[b8]? = some (.cells #[.int .u64 8192, .slice aw nw cw] 28 (0, 0)) ∧ V.heap[b11]? = some (.cells #[y, .slice ay ny cy] 28 (0, 0)) ∧ Below W.heap.size W V
theorem Cq.below {W V V' : World} {b8 b11 rb rc : Nat} {M : Nat → Nat} {bsw : Nat → Nat × Nat} {aw : Option Addr} {nw cw i : Nat} {ax : Option Addr} {nx cx : Nat} {y : Value} {ay : Option Addr} {ny cy : Nat} (h : Cq W V b8 b11 rb rc M bsw aw nw cw i ax nx cx y ay ny cy) (hb : Below V.heap.size V V') : Cq W V' b8 b11 rb rc M bsw aw nw cw i ax nx cx y ay ny cy := by
  obtain ⟨Fm, Fc, Mc, h1, h2, h3, h4, h5, h6, h7, h8, h9, h10, h11, h12⟩ := h
  exact ⟨Fm, Fc, Mc, h1.below hb, h2.below hb, h3.below hb, h4, h5, h6, h7, h8, h9, below_box h10 hb, below_box h11 hb, h12.trans (hb.mono h12.size)⟩
/-- the answer is laid into the second box -/
theorem Cq.set {W V : World} {b8 b11 rb rc : Nat} {M : Nat → Nat} {bsw : Nat → Nat × Nat} {aw : Option Addr} {nw cw i : Nat} {ax : Option Addr} {nx cx : Nat} {y : Value} {ay : Option Addr} {ny cy : Nat} (h : Cq W V b8 b11 rb rc M bsw aw nw cw i ax nx cx y ay ny cy) (hne : b8 ≠ b11) (hW : W.heap.size ≤ b11) :
    Cq W ((V.setCell ⟨b11, 0, none⟩ (.int .u64 8192)).setCell ⟨b11, 1, none⟩ (.slice ax nx cx)) b8 b11 rb rc M bsw aw nw cw i ax nx cx (.int .u64 8192) ax nx cx := by
  obtain ⟨Fm, Fc, Mc, h1, h2, h3, h4, h5, h6, h7, h8, h9, h10, h11, h12⟩ := h
  have hq := (box_facts h11).2.1
  have hq' : (V.setCell ⟨b11, 0, none⟩ (.int .u64 8192)).cell? ⟨b11, 1, none⟩ = some (.slice ay ny cy) := by
    rw [World.cell?_setCell_other _ _ _ _ (fun h => by simp at h)]; exact hq
  exact ⟨Fm, Fc, Mc, (h1.setCell h9 0 _).setCell h9 1 _, (h2.setBox hq 0 _).setBox hq' 1 _, h3.setBox h7 hq, h4, h5, h6, h7, h8, h9, box_other h10 hne, box_set h11, (h12.setCell (p := ⟨b11, 0, none⟩) hW _).setCell (p := ⟨b11, 1, none⟩) hW _⟩
/-- a box of the round's own is laid anew -/
theorem Cq.own {W V : World} {b8 b11 rb rc b : Nat} {M : Nat → Nat} {bsw : Nat → Nat × Nat} {aw : Option Addr} {nw cw i : Nat} {ax : Option Addr} {nx cx : Nat} {y : Value} {ay : Option Addr} {ny cy : Nat} {u0 u1 p : Value} {aq : Option Addr} {nq cq : Nat} (h : Cq W V b8 b11 rb rc M bsw aw nw cw i ax nx cx y ay ny cy) (hb : V.heap[b]? = some (.cells #[p, .slice aq nq cq] 28 (0, 0))) (h8 : b8 ≠ b) (h11 : b11 ≠ b) (hW : W.heap.size ≤ b) (hF : ∃ Fm Fc Mc, RamAt V Fm rb 8192 2000 (.pointer none) M ∧ RefIn Fc V (.slice aw nw cw) nw bsw ∧ Both Fc V rc 8192 (.slice ax nx cx) (2000 + 64 * i) Mc ∧ (∀ q, Fm q → ¬ Fc q) ∧ (∀ q, Fc q → W.heap.size ≤ q) ∧ ¬ Fc b8 ∧ ¬ Fc b11 ∧ ¬ Fm b8 ∧ ¬ Fm b11 ∧ ¬ Fc b ∧ ¬ Fm b) :
    Cq W ((V.setCell ⟨b, 0, none⟩ u0).setCell ⟨b, 1, none⟩ u1) b8 b11 rb rc M bsw aw nw cw i ax nx cx y ay ny cy := by
  obtain ⟨_, _, _, _, _, _, _, _, _, _, _, _, h10, h11', h12⟩ := h
  obtain ⟨Fm, Fc, Mc, h1, h2, h3, h4, h5, h6, h7, h8', h9, hc, hm⟩ := hF
  have hq := (box_facts hb).2.1
  have hq' : (V.setCell ⟨b, 0, none⟩ u0).cell? ⟨b, 1, none⟩ = some (.slice aq nq cq) := by
    rw [World.cell?_setCell_other _ _ _ _ (fun h => by simp at h)]; exact hq
  exact ⟨Fm, Fc, Mc, (h1.setCell hm 0 _).setCell hm 1 _, (h2.setBox hq 0 _).setBox hq' 1 _, h3.setBox hc hq, h4, h5, h6, h7, h8', h9, box_other h10 h8, box_other h11' h11, (h12.setCell (p := ⟨b, 0, none⟩) hW _).setCell (p := ⟨b, 1, none⟩) hW _⟩
/-- behind a call of do at the copy -/
theorem cq_do {W wr X w4 : World} {Fm Fc F4 : Nat → Prop} {b8 b11 rb rc : Nat} {M M4 : Nat → Nat} {bsw : Nat → Nat × Nat} {aw : Option Addr} {nw cw i : Nat} {a4 : Option Addr} {n4 c4 : Nat} {y : Value} {ay : Option Addr} {ny cy : Nat}
    (h1 : RamAt wr Fm rb 8192 2000 (.pointer none) M) (h2 : RefIn Fc wr (.slice aw nw cw) nw bsw) (h4 : ∀ q, Fm q → ¬ Fc q) (h5 : ∀ q, Fc q → W.heap.size ≤ q) (h6 : ¬ Fc b8) (h7 : ¬ Fc b11) (h8 : ¬ Fm b8) (h9 : ¬ Fm b11)
    (h10 : wr.heap[b8]? = some (.cells #[.int .u64 8192, .slice aw nw cw] 28 (0, 0))) (h11 : wr.heap[b11]? = some (.cells #[y, .slice ay ny cy] 28 (0, 0))) (h12 : Below W.heap.size W wr)
    (hX : Below wr.heap.size wr X) (hs : Step Fc X F4 w4) (hb : Both F4 w4 rc 8192 (.slice a4 n4 c4) (2000 + 64 * i + 64) M4) :
    Cq W w4 b8 b11 rb rc M bsw aw nw cw (i + 1) a4 n4 c4 y ay ny cy ∧ ∀ b, wr.heap.size ≤ b → b < X.heap.size → ¬ Fc b → ∃ Fm Fc Mc, RamAt w4 Fm rb 8192 2000 (.pointer none) M ∧ RefIn Fc w4 (.slice aw nw cw) nw bsw ∧ Both Fc w4 rc 8192 (.slice a4 n4 c4) (2000 + 64 * (i + 1)) Mc ∧ (∀ q, Fm q → ¬ Fc q) ∧ (∀ q, Fc q → W.heap.size ≤ q) ∧ ¬ Fc b8 ∧ ¬ Fc b11 ∧ ¬ Fm b8 ∧ ¬ Fm b11 ∧ ¬ Fc b ∧ ¬ Fm b := by
  have hlt := h1.lt
  have hsz := hX.size
  have l8 := (Array.getElem?_eq_some_iff.1 h10).1
  have l11 := (Array.getElem?_eq_some_iff.1 h11).1
  have k1 : RamAt w4 Fm rb 8192 2000 (.pointer none) M := (h1.below hX).step hs h4
  have k2 : RefIn F4 w4 (.slice aw nw cw) nw bsw := (h2.below hX).step hs
  have k3 : Both F4 w4 rc 8192 (.slice a4 n4 c4) (2000 + 64 * (i + 1)) M4 := by rw [show 2000 + 64 * (i + 1) = 2000 + 64 * i + 64 from by omega]; exact hb
  have k4 : ∀ q, Fm q → ¬ F4 q := fun q hq hf => by
    rcases hs.old q hf with h | h
    · exact h4 q hq h
    · have := hlt q hq; omega
  have hW := h12.size
  have k5 : ∀ q, F4 q → W.heap.size ≤ q := fun q hf => by
    rcases hs.old q hf with h | h
    · exact h5 q h
    · omega
  have k6 : ¬ F4 b8 := notF4 hs hX l8 h6
  have k7 : ¬ F4 b11 := notF4 hs hX l11 h7
  refine ⟨⟨Fm, F4, M4, k1, k2, k3, k4, k5, k6, k7, h8, h9, step_box hs (below_box h10 hX) h6, step_box hs (below_box h11 hX) h7, (h12.trans (hX.mono hW)).trans (hs.below (by omega) h5)⟩, fun b hb1 hb2 hbF => ?_⟩
  refine ⟨Fm, F4, M4, k1, k2, k3, k4, k5, k6, k7, h8, h9, fun hf => ?_, fun hf => by have := hlt b hf; omega⟩
  rcases hs.old b hf with h | h
  · exact hbF h
  · omega
end Go.Proofs.Ytbodmgihoklhiaa
