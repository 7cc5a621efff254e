/- What the statements of layer 9 share: a trap that comes in; right; both files and a trap. -/
import Derived.Test.YtdljceeoofhfnaaTa
import Derived.Test.YtdljceeoofhfnaaLa
import Derived.Test.YtdljceeoofhfnaaOp
import Derived.Test.YtdljceeoofhfnaaTe
namespace Go.Proofs.Ytdljceeoofhfnaa
open Go.RowKit Go.Maps
set_option linter.unusedVariables false
set_option linter.unusedSimpArgs false
set_option maxRecDepth 100000
/-- a trap as it comes in, cell by cell -/
def tC (c : Int) (v : Nat) (i : Bool) : Array Value := #[.int .i64 c, .int .u64 (v : Int), .bool i]
theorem tC_nat (c v : Nat) (i : Bool) : tC (c : Int) v i = trapC c v i := rfl
theorem start_trap (w : World) (a b : Array Value) : Box 25 ((w.alloc (.cells a 25)).alloc (.cells b 27)) w.heap.size a ∧ Below w.heap.size w ((w.alloc (.cells a 25)).alloc (.cells b 27)) ∧ Box 27 ((w.alloc (.cells a 25)).alloc (.cells b 27)) (w.heap.size + 1) b := by
  refine ⟨(Box.new 25 w _).alloc _, ((Below.refl _ _).alloc (Nat.le_refl _) _).alloc (by simp) _, ?_⟩
  have h := Box.new 27 (w.alloc (.cells a 25)) b
  simpa using h
theorem right_any (c : Int) (v : Nat) (i : Bool) (w : World) : Calls Try.prog 9 #[.agg (tC c v i)] w fun e w' => e = .returned (.bool (decide (0 ≤ c) && decide (c < 64))) ∧ Below w.heap.size w w' := by
  have HX : Hid (Box 27 (w.alloc (.cells (tC c v i) 27)) w.heap.size (tC c v i) ∧ Below w.heap.size w (w.alloc (.cells (tC c v i) 27))) := ⟨Box.new _ _ _, (Below.refl _ _).alloc (Nat.le_refl _) _⟩
  by_cases h : 0 ≤ c
  · rw [decide_eq_true h, Bool.true_and]
    go_enter Try.func9, Try.ntmps9
    go_upto_region 1 with fail
    generalize (w.alloc (.cells (tC c v i) 27)) = W at *
    have c0 : W.cell? ⟨w.heap.size, 0, none⟩ = some (.int .i64 c) := HX.out.1.cell 0 _ rfl
    go_wp2_with fail
    go_ret
    exact ⟨rfl, HX.out.2⟩
  · rw [decide_eq_false h, Bool.false_and]
    go_enter Try.func9, Try.ntmps9
    go_upto_region 1 with fail
    generalize (w.alloc (.cells (tC c v i) 27)) = W at *
    have c0 : W.cell? ⟨w.heap.size, 0, none⟩ = some (.int .i64 c) := HX.out.1.cell 0 _ rfl
    go_wp2_with fail
    go_ret
    exact ⟨rfl, HX.out.2⟩
/-- both files and a trap of a statement -/
def Tt (w W : World) (fb db : Nat) (m m' : Int) (K K' : Nat → Nat) (c : Int) (v : Nat) (i : Bool) : Prop := Tw w W fb db m m' K K' ∧ Box 27 W (w.heap.size + 1) (tC c v i) ∧ w.heap.size + 1 < fb
section
variable {w W W' : World} {fb db : Nat} {m m' : Int} {K K' : Nat → Nat} {c : Int} {v : Nat} {i : Bool}
theorem Tt.step (h : Tt w W fb db m m' K K' c v i) (hb : Below W.heap.size W W') : Tt w W' fb db m m' K K' c v i := ⟨h.1.step hb, h.2.1.step hb, h.2.2⟩
theorem Tt.file (h : Tt w W fb db m m' K K' c v i) {m2 : Int} {K2 : Nat → Nat} (hb : Box 31 W' fb (fileC m2 K2)) (hu : Upon fb W W') : Tt w W' fb db m2 m' K2 K' c v i := ⟨h.1.file hb hu, hu.box h.2.1 (by have := h.2.2; omega), h.2.2⟩
end
theorem cells4 : Try.prog.cellsOf 4 = 1 := by kernel_rfl
theorem cellsTT : Try.prog.cellsOf 27 = 3 := by kernel_rfl
open Go.ChangeShapes Go.WideShapes Go.ChangeAt in
theorem open_trap {H : Type} {enc : TypeId × Value → H} {W : World} {held : Bool} {r : Reach} {b0 : Nat} {x : Value} {d : DataW H} {p : List MemPlace} (hv : Value.okWide Try.prog W r b0 27 x) (h : DataW.Trod enc Try.prog W 0 (fun _ => true) held 27 x d p) :
    ∃ c v i, x = .agg (tC c v i) ∧ v < 18446744073709551616 := by
  obtain ⟨cs, rfl⟩ := open_agg Try.underlying27 hv
  obtain ⟨fuel, hf⟩ := h
  obtain ⟨xs, m, _, _, hl, hlen, hff⟩ := DataW.trod_struct Try.underlying27 hf
  rw [cellsTT] at hl
  obtain ⟨c0, c1, c2, hcs⟩ := list_three _ hl
  simp only [Value.cells] at hcs hff
  rw [hcs] at hff
  obtain ⟨y0, y1, y2, rfl⟩ := list_three xs hlen
  have h0 := hff 0 _ rfl
  have h1 := hff 1 _ rfl
  have h2 := hff 2 _ rfl
  simp [cells3, cells23, cells4] at h0 h1 h2
  obtain ⟨z, e0, _, w0⟩ := DataW.trod_int Try.underlying3 h0
  obtain ⟨y, e1, _, w1⟩ := DataW.trod_int Try.underlying23 h1
  obtain ⟨q, e2, _⟩ := DataW.trod_bool Try.underlying4 h2
  simp at e0 e1 e2
  obtain ⟨n, rfl, hn⟩ := nat_u64 w1
  subst e0 e1 e2
  refine ⟨z, n, q, ?_, hn⟩
  unfold tC
  rw [show cs = #[.int .i64 z, .int .u64 (n : Int), .bool q] from Array.toList_inj.1 hcs]
end Go.Proofs.Ytdljceeoofhfnaa
