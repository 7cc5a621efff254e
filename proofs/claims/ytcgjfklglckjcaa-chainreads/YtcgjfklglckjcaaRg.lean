/- RingChecks. -/
import Derived.Test.YtcgjfklglckjcaaRf
import Derived.Laws.Tables
import Derived.Laws.StructEq
namespace Go.Proofs.Ytcgjfklglckjcaa
open Go.RowKit Go.Maps
set_option linter.unusedVariables false
set_option linter.unusedSimpArgs false
set_option maxRecDepth 100000
theorem below_call {w w1 w2 : World} (h1 : Below w.heap.size w w1) (h2 : Below w1.heap.size w1 w2) : Below w.heap.size w w2 := h1.trans (h2.mono h1.size)
theorem cells_alloc {w : World} {b : Nat} {o o2 : Obj} (h : w.heap[b]? = some o) : (w.alloc o2).heap[b]? = some o := below_box h ((Below.refl _ _).alloc (Nat.le_refl _) _)
/-- the state behind the memory is made: the layout's box, the document's memory's box -/
def St (W V : World) (s : Int) (D A U : Nat) (p : Value) (b : Nat) (rb : Nat) (a : Option Addr) (nn c : Nat) (F : Nat → Prop) (M : Nat → Nat) : Prop :=
  V.heap[W.heap.size]? = some (.cells #[.int .i64 s, .int .u64 (D : Int), .int .u64 (A : Int), .int .u64 (U : Int)] 25 (0, 0)) ∧ V.heap[b]? = some (.cells #[.int .u64 8192, .slice a nn c] 32 (0, 0)) ∧ Both F V rb 8192 (.slice a nn c) 12000 M ∧ (∀ k, F k → W.heap.size < k) ∧ ¬ F b ∧ W.heap.size < b ∧ Below W.heap.size W V
theorem St.step {W V V' : World} {s : Int} {D A U : Nat} {p : Value} {b rb : Nat} {a : Option Addr} {nn c : Nat} {F : Nat → Prop} {M : Nat → Nat} (h : St W V s D A U p b rb a nn c F M) (hb : Below V.heap.size V V') : St W V' s D A U p b rb a nn c F M :=
  ⟨below_box h.1 hb, below_box h.2.1 hb, h.2.2.1.below hb, h.2.2.2.1, h.2.2.2.2.1, h.2.2.2.2.2.1, below_call h.2.2.2.2.2.2 hb⟩
theorem St.made {W w1 w2 : World} {s : Int} {D A U : Nat} {p : Value} {rb : Nat} {a : Option Addr} {nn c : Nat} {F : Nat → Prop} {M : Nat → Nat} (h1 : Below (W.alloc (.cells #[.int .i64 s, .int .u64 (D : Int), .int .u64 (A : Int), .int .u64 (U : Int)] 25)).heap.size (W.alloc (.cells #[.int .i64 s, .int .u64 (D : Int), .int .u64 (A : Int), .int .u64 (U : Int)] 25)) w1) (h2 : Below w1.heap.size w1 w2) (hb : Both F w2 rb 8192 (.slice a nn c) 12000 M) (hF : ∀ k, F k → w1.heap.size ≤ k) : St W (w2.alloc (.cells #[.int .u64 8192, .slice a nn c] 32)) s D A U p w2.heap.size rb a nn c F M := by
  have e1 := heap_alloc_new W (.cells #[.int .i64 s, .int .u64 (D : Int), .int .u64 (A : Int), .int .u64 (U : Int)] 25)
  have hsz : (W.alloc (.cells #[.int .i64 s, .int .u64 (D : Int), .int .u64 (A : Int), .int .u64 (U : Int)] 25)).heap.size = W.heap.size + 1 := by simp
  have h12 := below_call h1 h2
  have hs1 := h1.size
  have hs2 := h2.size
  have hlt := hb.1.lt
  exact ⟨cells_alloc (below_box e1 h12), heap_alloc_new _ _, hb.below ((Below.refl _ _).alloc (Nat.le_refl _) _), fun k hk => by have := hF k hk; omega, fun hf => by have := hlt _ hf; omega, by omega, below_call (below_call ((Below.refl _ _).alloc (Nat.le_refl _) _) h12) ((Below.refl _ _).alloc (Nat.le_refl _) _)⟩
theorem ne_types {w : World} {b p : Nat} {c d : Array Value} {t u : TypeId} {x y : Nat × Nat} (h1 : w.heap[b]? = some (.cells c t x)) (h2 : w.heap[p]? = some (.cells d u y)) (hne : t ≠ u) : b ≠ p := fun h => by
  subst h
  rw [h1] at h2
  injection h2 with h2
  injection h2 with _ h3
  exact hne h3
end Go.Proofs.Ytcgjfklglckjcaa
