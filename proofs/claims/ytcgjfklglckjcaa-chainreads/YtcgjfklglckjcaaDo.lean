/- The call 'do' of the statements of layer 2: a call at both memories is answered alike, and both hold the same bytes again. -/
import Derived.Test.YtcgjfklglckjcaaBoth
import Derived.Deep.RegionHeld3
namespace Go.Proofs.Ytcgjfklglckjcaa
open Go.RowKit Go.Maps
set_option linter.unusedVariables false
theorem boxes3 {w w1 : World} {o1 o2 o3 : Obj} (hb : Below (((w.alloc o1).alloc o2).alloc o3).heap.size (((w.alloc o1).alloc o2).alloc o3) w1) :
    w1.heap[w.heap.size]? = some o1 ∧ w1.heap[w.heap.size + 1]? = some o2 ∧ w1.heap[w.heap.size + 1 + 1]? = some o3 ∧ Below w.heap.size w w1 ∧ w.heap.size + 3 ≤ w1.heap.size := by
  have e1 : (w.alloc o1).heap.size = w.heap.size + 1 := by simp
  have e2 : ((w.alloc o1).alloc o2).heap.size = w.heap.size + 2 := by simp
  have e3 : (((w.alloc o1).alloc o2).alloc o3).heap.size = w.heap.size + 3 := by simp
  have hs := hb.size
  rw [e3] at hs
  have h12 : Below ((w.alloc o1).alloc o2).heap.size ((w.alloc o1).alloc o2) w1 := ((Below.refl _ _).alloc (Nat.le_refl _) o3).trans (hb.mono (by omega))
  obtain ⟨h1, h2, h3, _⟩ := boxes h12
  refine ⟨h1, h2, ?_, h3, hs⟩
  rw [hb.block _ (by omega), show w.heap.size + 1 + 1 = ((w.alloc o1).alloc o2).heap.size from by omega]
  exact heap_alloc_new ((w.alloc o1).alloc o2) o3
theorem box5_facts {w : World} {b : Nat} {x0 x1 x2 x3 x4 : Value} {t : TypeId} (h : w.heap[b]? = some (.cells #[x0, x1, x2, x3, x4] t (0, 0))) :
    w.cell? ⟨b, 0, none⟩ = some x0 ∧ w.cell? ⟨b, 1, none⟩ = some x1 ∧ w.cell? ⟨b, 2, none⟩ = some x2 ∧ w.cell? ⟨b, 3, none⟩ = some x3 ∧ w.cell? ⟨b, 4, none⟩ = some x4 := by
  refine ⟨?_, ?_, ?_, ?_, ?_⟩ <;> (simp only [World.cell?, h]; rfl)
theorem three_boxes (w : World) (o1 o2 o3 : Obj) : Below w.heap.size w (((w.alloc o1).alloc o2).alloc o3) := (two_boxes w o1 o2).alloc (by simp; omega) _
theorem Both.step {F F' : Nat → Prop} {w w' : World} {rb s n n' : Nat} {v : Value} {M M' : Nat → Nat} {nb : Nat} {bs : Nat → Nat × Nat} (h1 : RamAt w' F' rb s n' (.pointer none) M') (h2 : RefIn F w v nb bs) (hs : Step F w F' w') (hn : nb ≤ n') (hv : ∃ a c, v = .slice a nb c) (he : (∀ a, rget bs nb a = M' a) ∧ Rng bs nb s) : Both F' w' rb s v n' M' :=
  ⟨h1, nb, bs, hn, hv, h2.step hs, he⟩
theorem after_call {F F2 : Nat → Prop} {w1 w2 : World} {o o' : Obj} {b : Nat} (hs : Step F (w1.alloc o).drew F2 w2) (hb : w1.heap[b]? = some o') (hF : ¬ F b) (hF1 : ¬ F w1.heap.size) : w2.heap[b]? = some o' ∧ w2.heap[w1.heap.size]? = some o := by
  have hlt : b < w1.heap.size := (Array.getElem?_eq_some_iff.1 hb).1
  have e1 : (w1.alloc o).drew.heap.size = w1.heap.size + 1 := by simp
  refine ⟨?_, ?_⟩
  · rw [hs.block b (by omega) hF]
    exact ((World.grownBy_alloc w1 o none).block b hlt (by simp)).trans hb
  · rw [hs.block _ (by omega) hF1]
    exact heap_alloc_new w1 o
theorem heap_setCell (w : World) (b o : Nat) (u : Value) (k : Nat) (h : k ≠ b) : (w.setCell ⟨b, o, none⟩ u).heap[k]? = w.heap[k]? := by
  simp only [World.setCell]; rw [Array.getElem?_modify, if_neg (fun e => h e.symm)]
theorem RamAt.setCell {w : World} {F : Nat → Prop} {rb size n : Nat} {lg : Value} {M : Nat → Nat} (h : RamAt w F rb size n lg M) {b : Nat} (hb : ¬ F b) (o : Nat) (u : Value) : RamAt (w.setCell ⟨b, o, none⟩ u) F rb size n lg M :=
  h.kept (by simp [World.setCell]) (fun k hk => heap_setCell w b o u k (fun e => hb (e ▸ hk)))
theorem Step.setNew {F F' : Nat → Prop} {w w' : World} (h : Step F w F' w') {b : Nat} (hb : w.heap.size ≤ b) (o : Nat) (u : Value) : Step F w F' (w'.setCell ⟨b, o, none⟩ u) :=
  ⟨h.os, h.tape, h.output, by have := h.size; simp [World.setCell]; omega, fun k hk hf => (heap_setCell w' b o u k (by omega)).trans (h.block k hk hf), h.old, h.keep⟩
theorem RefIn.setBox {F : Nat → Prop} {w : World} {v : Value} {n : Nat} {bs : Nat → Nat × Nat} (h : RefIn F w v n bs) {b : Nat} {a0 : Option Addr} {n0 c0 : Nat} (hb : w.cell? ⟨b, 1, none⟩ = some (.slice a0 n0 c0)) (o : Nat) (u : Value) : RefIn F (w.setCell ⟨b, o, none⟩ u) v n bs := by
  rcases h with h | ⟨g, c, hv, hg, hc⟩
  · exact .inl h
  · by_cases h0 : n = 0
    · subst h0; exact .inl ⟨rfl, _, c, hv⟩
    · have hne : b ≠ g := by
        rintro rfl
        have := (hc 0 (by omega)).2
        rw [Nat.zero_mul, Nat.zero_add, hb] at this
        cases this
      refine .inr ⟨g, c, hv, hg, fun i hi => ?_⟩
      rw [World.cell?_setCell_other _ _ _ _ (fun h => by simp only [Addr.mk.injEq] at h; omega), World.cell?_setCell_other _ _ _ _ (fun h => by simp only [Addr.mk.injEq] at h; omega)]
      exact hc i hi
/-- behind a call at both: the answer is laid into its cells -/
theorem both_end {F F2 : Nat → Prop} {w w2 : World} {rb s n n' : Nat} {v u0 u1 : Value} {M' : Nat → Nat} {nb : Nat} {bs : Nat → Nat × Nat} {b : Nat} {a0 : Option Addr} {n0 c0 : Nat} (h2 : RamAt w2 F2 rb s n (.pointer none) M') (hr : RefIn F2 w2 v nb bs) (hn : nb ≤ n') (hnn : n ≤ n') (hv : ∃ a c, v = .slice a nb c) (he : (∀ a, rget bs nb a = M' a) ∧ Rng bs nb s)
    (hbF : ¬ F2 b) (hbw : w.heap.size ≤ b) (hq : w2.cell? ⟨b, 1, none⟩ = some (.slice a0 n0 c0)) (hs : Step F w F2 w2) :
    Both F2 ((w2.setCell ⟨b, 0, none⟩ u0).setCell ⟨b, 1, none⟩ u1) rb s v n' M' ∧ Step F w F2 ((w2.setCell ⟨b, 0, none⟩ u0).setCell ⟨b, 1, none⟩ u1) := by
  have hq' : (w2.setCell ⟨b, 0, none⟩ u0).cell? ⟨b, 1, none⟩ = some (.slice a0 n0 c0) := by
    rw [World.cell?_setCell_other _ _ _ _ (fun h => by simp at h)]; exact hq
  exact ⟨⟨((h2.setCell hbF 0 u0).setCell hbF 1 u1).mono hnn, nb, bs, hn, hv, (hr.setBox hq 0 u0).setBox hq' 1 u1, he⟩, (hs.setNew hbw 0 u0).setNew hbw 1 u1⟩
/-- a call's cells -/
abbrev opV (k : Int) (x : Nat) (n : Int) (y : Nat) (d : Value) : Value := .agg #[.int .i64 k, .int .u64 (x : Nat), .int .i64 n, .int .u64 (y : Nat), d]
theorem ReadsF.reads {F : Nat → Prop} {w : World} {v : Value} {n : Nat} {f : Nat → Nat} (h : ReadsF F w v n f) : Reads .u8 w v n f := by
  rcases h with ⟨h0, a, cap, _, hv⟩ | ⟨b, off, cap, hv, _, _, _, hc⟩
  · exact .inl ⟨h0, a, cap, hv⟩
  · exact .inr ⟨b, off, cap, hv, hc⟩
end Go.Proofs.Ytcgjfklglckjcaa
