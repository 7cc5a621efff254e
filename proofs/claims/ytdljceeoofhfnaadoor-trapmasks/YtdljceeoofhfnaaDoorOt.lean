/- What the statements of layer 9 share: a trap that comes in; right; both files and a trap. -/
import Derived.Test.YtdljceeoofhfnaaDoorTa
import Derived.Test.YtdljceeoofhfnaaDoorLa
import Derived.Test.YtdljceeoofhfnaaDoorOp
import Derived.Test.YtdljceeoofhfnaaDoorTe
namespace Go.Proofs.YtdljceeoofhfnaaDoor
open Go.RowKit Go.Maps
set_option linter.unusedVariables false
set_option linter.unusedSimpArgs false
set_option maxRecDepth 100000
/-- a trap as it comes in, cell by cell -/
def tC (c : Int) (v : Nat) (i : Bool) : Array Value := #[.int .i64 c, .int .u64 (v : Int), .bool i]
theorem tC_nat (c v : Nat) (i : Bool) : tC (c : Int) v i = trapC c v i := rfl
theorem start_trap (w : World) (a b : Array Value) : Box 25 ((w.alloc (.cells a 25)).alloc (.cells b 36)) w.heap.size a ∧ Below w.heap.size w ((w.alloc (.cells a 25)).alloc (.cells b 36)) ∧ Box 36 ((w.alloc (.cells a 25)).alloc (.cells b 36)) (w.heap.size + 1) b := by
  refine ⟨(Box.new 25 w _).alloc _, ((Below.refl _ _).alloc (Nat.le_refl _) _).alloc (by simp) _, ?_⟩
  have h := Box.new 36 (w.alloc (.cells a 25)) b
  simpa using h
/-- both files and a trap of a statement -/
def Tt (w W : World) (fb db : Nat) (m m' : Int) (K K' : Nat → Nat) (c : Int) (v : Nat) (i : Bool) : Prop := Tw w W fb db m m' K K' ∧ Box 36 W (w.heap.size + 1) (tC c v i) ∧ w.heap.size + 1 < fb
section
variable {w W W' : World} {fb db : Nat} {m m' : Int} {K K' : Nat → Nat} {c : Int} {v : Nat} {i : Bool}
theorem Tt.step (h : Tt w W fb db m m' K K' c v i) (hb : Below W.heap.size W W') : Tt w W' fb db m m' K K' c v i := ⟨h.1.step hb, h.2.1.step hb, h.2.2⟩
theorem Tt.file (h : Tt w W fb db m m' K K' c v i) {m2 : Int} {K2 : Nat → Nat} (hb : Box 29 W' fb (fileC m2 K2)) (hu : Upon fb W W') : Tt w W' fb db m2 m' K2 K' c v i := ⟨h.1.file hb hu, hu.box h.2.1 (by have := h.2.2; omega), h.2.2⟩
end
theorem cells4 : Tryd.prog.cellsOf 4 = 1 := by kernel_rfl
theorem cellsTT : Tryd.prog.cellsOf 36 = 3 := by kernel_rfl
open Go.ChangeShapes Go.WideShapes Go.ChangeAt in
theorem open_trap {H : Type} {enc : TypeId × Value → H} {W : World} {held : Bool} {r : Reach} {b0 : Nat} {x : Value} {d : DataW H} {p : List MemPlace} (hv : Value.okWide Tryd.prog W r b0 36 x) (h : DataW.Trod enc Tryd.prog W 0 (fun _ => true) held 36 x d p) :
    ∃ c v i, x = .agg (tC c v i) ∧ v < 18446744073709551616 := by
  obtain ⟨cs, rfl⟩ := open_agg Tryd.underlying36 hv
  obtain ⟨fuel, hf⟩ := h
  obtain ⟨xs, m, _, _, hl, hlen, hff⟩ := DataW.trod_struct Tryd.underlying36 hf
  rw [cellsTT] at hl
  obtain ⟨c0, c1, c2, hcs⟩ := list_three _ hl
  simp only [Value.cells] at hcs hff
  rw [hcs] at hff
  obtain ⟨y0, y1, y2, rfl⟩ := list_three xs hlen
  have h0 := hff 0 _ rfl
  have h1 := hff 1 _ rfl
  have h2 := hff 2 _ rfl
  simp [cells3, cells23, cells4] at h0 h1 h2
  obtain ⟨z, e0, _, w0⟩ := DataW.trod_int Tryd.underlying3 h0
  obtain ⟨y, e1, _, w1⟩ := DataW.trod_int Tryd.underlying23 h1
  obtain ⟨q, e2, _⟩ := DataW.trod_bool Tryd.underlying4 h2
  simp at e0 e1 e2
  obtain ⟨n, rfl, hn⟩ := nat_u64 w1
  subst e0 e1 e2
  refine ⟨z, n, q, ?_, hn⟩
  unfold tC
  rw [show cs = #[.int .i64 z, .int .u64 (n : Int), .bool q] from Array.toList_inj.1 hcs]
end Go.Proofs.YtdljceeoofhfnaaDoor
