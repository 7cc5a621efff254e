/- What the document's call Enter of layer 9 needs. -/
import Derived.Test.YtdljceeoofhfnaaDt
import Derived.Test.YtdljceeoofhfnaaDb
namespace Go.Proofs.Ytdljceeoofhfnaa
open Go.RowKit Go.Maps
set_option linter.unusedVariables false
set_option linter.unusedSimpArgs false
set_option maxRecDepth 100000
/-- the document's file, a trap, a result: each in a box of its own -/
def Tri (w W : World) (m : Int) (K : Nat → Nat) (c v : Nat) (i : Bool) : Prop := Box 34 W w.heap.size (docC m K) ∧ Box 27 W (w.heap.size + 1) (trapC c v i) ∧ Box 34 W (w.heap.size + 2) zeroD ∧ Below w.heap.size w W
section
variable {w W W' : World} {m : Int} {K : Nat → Nat} {c v : Nat} {i : Bool}
theorem Tri.step (h : Tri w W m K c v i) (hb : Below W.heap.size W W') : Tri w W' m K c v i := ⟨h.1.step hb, h.2.1.step hb, h.2.2.1.step hb, h.2.2.2.trans (hb.mono h.2.2.2.size)⟩
theorem Tri.doc (h : Tri w W m K c v i) {m2 : Int} {K2 : Nat → Nat} (hb : Box 34 W' w.heap.size (docC m2 K2)) (hu : Upon w.heap.size W W') : Tri w W' m2 K2 c v i := ⟨hb, hu.box h.2.1 (by omega), hu.box h.2.2.1 (by omega), h.2.2.2.trans (hu.below (Nat.le_refl _) h.2.2.2.size)⟩
end
theorem tri_boxes (w : World) (a b d : Array Value) : Box 34 (((w.alloc (.cells a 34)).alloc (.cells b 27)).alloc (.cells d 34)) w.heap.size a ∧ Box 27 (((w.alloc (.cells a 34)).alloc (.cells b 27)).alloc (.cells d 34)) (w.heap.size + 1) b ∧ Box 34 (((w.alloc (.cells a 34)).alloc (.cells b 27)).alloc (.cells d 34)) (w.heap.size + 2) d ∧ Below w.heap.size w (((w.alloc (.cells a 34)).alloc (.cells b 27)).alloc (.cells d 34)) := by
  refine ⟨((Box.new 34 w _).alloc _).alloc _, ?_, ?_, (((Below.refl _ _).alloc (Nat.le_refl _) _).alloc (by simp) _).alloc (by simp; omega) _⟩
  · have h := (Box.new 27 (w.alloc (.cells a 34)) b).alloc (.cells d 34)
    simpa using h
  · have h := Box.new 34 ((w.alloc (.cells a 34)).alloc (.cells b 27)) d
    simpa using h
theorem Tri.new (w : World) (m : Int) (K : Nat → Nat) (c v : Nat) (i : Bool) : Tri w (((w.alloc (.cells (docC m K) 34)).alloc (.cells (trapC c v i) 27)).alloc (.cells #[.int .i64 0, .int .u64 0, .int .u64 0, .int .u64 0, .int .u64 0, .int .u64 0, .int .u64 0, .int .u64 0, .int .u64 0, .int .u64 0, .int .u64 0, .int .u64 0, .int .u64 0, .int .u64 0, .int .u64 0, .int .u64 0, .int .u64 0, .int .u64 0, .int .u64 0, .int .u64 0, .int .u64 0, .int .u64 0, .int .u64 0] 34)) m K c v i := tri_boxes w _ _ _
theorem resultsD2 {fn : Func} {p t : Tmp} (h : fn.results = #[.cell p 34, .tmp t]) (tmps : Array Value) (w : World) (b : Nat) (m : Int) (K : Nat → Nat)
    (hp : tmps.getD p undef = .pointer (some ⟨b, 0, none⟩)) (h1 : Box 34 w b (docC m K)) :
    (results fn tmps).run Try.prog w = .ok (.tuple #[.agg (docC m K), tmps.getD t undef]) w := by
  have hp' : tmps[p]?.getD undef = .pointer (some ⟨b, 0, none⟩) := by simpa using hp
  simp [results, h, hp', asAddr, load_doc h1]
theorem tup_eq {d : Value} {a b : Nat} (h : a = b) : Ending.returned (.tuple #[d, .int .u64 (a : Int)]) = .returned (.tuple #[d, .int .u64 (b : Int)]) := by rw [h]
theorem place_plain (x c : Nat) : lowN x = placeN x c false := by unfold placeN; rw [if_neg (by simp)]
theorem place_odd (x c : Nat) (h : x % 2 = 1) : (lowN x + 4 * c) % 18446744073709551616 = placeN x c true := by unfold placeN; rw [bit0_mod, if_pos (by simp [h])]
theorem place_even (x c : Nat) (h : ¬ x % 2 = 1) : lowN x = placeN x c true := by unfold placeN; rw [bit0_mod, if_neg (by simp; omega)]
theorem sub_low (x : Nat) (hx : x < 18446744073709551616) : IntKind.u64.wrap ((x : Int) - (x : Int).tmod 4) = ((lowN x : Nat) : Int) := by
  unfold lowN
  rw [Int.tmod_eq_emod_of_nonneg (by omega), wrap_u64]
  omega
theorem odd_yes (x : Nat) (h : x % 2 = 1) : (x : Int).tmod 2 = 1 := by rw [Int.tmod_eq_emod_of_nonneg (by omega)]; omega
theorem odd_no (x : Nat) (h : ¬ x % 2 = 1) : ((x : Int).tmod 2 == 1) = false := by rw [Int.tmod_eq_emod_of_nonneg (by omega)]; simp; omega
theorem sub_low2 (x : Nat) (hx : x < 18446744073709551616) : IntKind.u64.wrap ((x : Int) - (x : Int) % 4) = ((lowN x : Nat) : Int) := by
  unfold lowN
  rw [wrap_u64]
  omega
theorem odd_yes2 (x : Nat) (h : x % 2 = 1) : (x : Int) % 2 = 1 := by omega
theorem odd_no2 (x : Nat) (h : ¬ x % 2 = 1) : ((x : Int) % 2 == 1) = false ∧ ¬ (x : Int) % 2 = 1 := by simp; omega
theorem wrap_top : IntKind.u64.wrap 9223372036854775808 = 9223372036854775808 := by rw [wrap_u64]; decide
end Go.Proofs.Ytdljceeoofhfnaa
