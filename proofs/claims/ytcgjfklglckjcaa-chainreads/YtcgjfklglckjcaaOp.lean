/- What the statements of layer 16 are handed: an ask, a part, bytes to be written. -/
import Derived.Test.YtcgjfklglckjcaaRe
import Derived.ProofKit
import Derived.OpenShut
import Derived.Deep.Slices
namespace Go.Proofs.Ytcgjfklglckjcaa
open Go.RowKit Go.ChangeShapes Go.WideShapes Go.ChangeAt
set_option linter.unusedVariables false
set_option linter.unusedSimpArgs false
set_option maxRecDepth 100000
theorem cellsOf27 : Try.prog.cellsOf 27 = 6 := by kernel_rfl
theorem cellsOfL : Try.prog.cellsOf 25 = 4 := by kernel_rfl
theorem cellsOfI : Try.prog.cellsOf 3 = 1 := by kernel_rfl
theorem cellsOfB : Try.prog.cellsOf 4 = 1 := by kernel_rfl
theorem cellsOf60 : Try.prog.cellsOf 60 = 2 := by kernel_rfl
theorem cellsOf71 : Try.prog.cellsOf 71 = 2 := by kernel_rfl
theorem cellsOfU : Try.prog.cellsOf 23 = 1 := by kernel_rfl
theorem cellsOfS : Try.prog.cellsOf 64 = 1 := by kernel_rfl
theorem list_six {α : Type} (l : List α) (h : l.length = 6) : ∃ a b c d e f, l = [a, b, c, d, e, f] := by
  match l, h with
  | [a, b, c, d, e, f], _ => exact ⟨a, b, c, d, e, f, rfl⟩
theorem list_three {α : Type} (l : List α) (h : l.length = 3) : ∃ a b c, l = [a, b, c] := by
  match l, h with
  | [a, b, c], _ => exact ⟨a, b, c, rfl⟩
section
variable {H : Type} {enc : TypeId × Value → H} {W : World} {spare : Nat → Bool} {held : Bool}
theorem open_lays {n : Nat} {cs : List Value} {x : DataW H × List MemPlace} (h : DataW.trod enc Try.prog W 0 (fun _ => true) held n 25 cs = some x) :
    ∃ (s : Int) (D A Uu : Nat), cs = [.int .i64 s, .int .u64 (D : Int), .int .u64 (A : Int), .int .u64 (Uu : Int)] ∧ (Lit.int .i64 s).wf = true ∧ D < 18446744073709551616 ∧ A < 18446744073709551616 ∧ Uu < 18446744073709551616 := by
  obtain ⟨xs, m, _, _, hl, hlen, hff⟩ := DataW.trod_struct Try.underlying25 h
  rw [cellsOfL] at hl
  obtain ⟨c0, c1, c2, c3, rfl⟩ := list_four _ hl
  obtain ⟨y0, y1, y2, y3, rfl⟩ := list_four xs hlen
  have h0 := hff 0 _ rfl
  have h1 := hff 1 _ rfl
  have h2 := hff 2 _ rfl
  have h3 := hff 3 _ rfl
  simp [cellsOfI, cellsOfU] at h0 h1 h2 h3
  obtain ⟨z0, e0, _, w0⟩ := DataW.trod_int Try.underlying3 h0
  obtain ⟨z1, e1, _, w1⟩ := DataW.trod_int Try.underlying23 h1
  obtain ⟨z2, e2, _, w2⟩ := DataW.trod_int Try.underlying23 h2
  obtain ⟨z3, e3, _, w3⟩ := DataW.trod_int Try.underlying23 h3
  simp at e0 e1 e2 e3
  obtain ⟨n1, rfl, g1⟩ := nat_u64 w1
  obtain ⟨n2, rfl, g2⟩ := nat_u64 w2
  obtain ⟨n3, rfl, g3⟩ := nat_u64 w3
  subst e0 e1 e2 e3
  exact ⟨z0, n1, n2, n3, rfl, w0, g1, g2, g3⟩
theorem open_ask {r : Reach} {b0 : Nat} {x : Value} {d : DataW H} {p : List MemPlace} (hv : Value.okWide Try.prog W r b0 27 x) (h : DataW.Trod enc Try.prog W 0 (fun _ => true) held 27 x d p) :
    ∃ (s : Int) (D A Uu : Nat) (hd : Int) (al : Bool), x = .agg #[.int .i64 s, .int .u64 (D : Int), .int .u64 (A : Int), .int .u64 (Uu : Int), .int .i64 hd, .bool al] ∧ D < 18446744073709551616 ∧ A < 18446744073709551616 ∧ Uu < 18446744073709551616 := by
  obtain ⟨cs, rfl⟩ := open_agg Try.underlying27 hv
  obtain ⟨fuel, hf⟩ := h
  obtain ⟨xs, m, _, _, hl, hlen, hff⟩ := DataW.trod_struct Try.underlying27 hf
  rw [cellsOf27] at hl
  obtain ⟨c0, c1, c2, c3, c4, c5, hcs⟩ := list_six _ hl
  simp only [Value.cells] at hcs hff
  rw [hcs] at hff
  obtain ⟨y0, y1, y2, rfl⟩ := list_three xs hlen
  have h0 := hff 0 _ rfl
  have h1 := hff 1 _ rfl
  have h2 := hff 2 _ rfl
  simp [cellsOfL, cellsOfI, cellsOfB] at h0 h1 h2
  obtain ⟨s, D, A, Uu, e0, _, hD, hA, hU⟩ := open_lays h0
  obtain ⟨z1, e1, _, w1⟩ := DataW.trod_int Try.underlying3 h1
  obtain ⟨z2, e2, _⟩ := DataW.trod_bool Try.underlying4 h2
  simp at e0 e1 e2
  obtain ⟨rfl, rfl, rfl, rfl⟩ := e0
  subst e1 e2
  refine ⟨s, D, A, Uu, z1, z2, ?_, hD, hA, hU⟩
  cases cs; simp_all
theorem open_part {r : Reach} {b0 : Nat} {x : Value} {d : DataW H} {p : List MemPlace} (hv : Value.okWide Try.prog W r b0 60 x) (h : DataW.Trod enc Try.prog W 0 (fun _ => true) held 60 x d p) :
    ∃ (f n : Nat), x = .agg #[.int .u64 (f : Int), .int .u64 (n : Int)] ∧ f < 18446744073709551616 ∧ n < 18446744073709551616 := by
  obtain ⟨cs, rfl, hsz, _⟩ : ∃ cs, x = .agg cs ∧ cs.size = Try.prog.cellsOf 60 ∧ Row.okWide Try.prog W r b0 60 cs := by
    simpa [Value.okWide, Try.underlying60] using hv
  rw [cellsOf60] at hsz
  obtain ⟨l⟩ := cs
  obtain ⟨c0, c1, rfl⟩ := list_two l hsz
  obtain ⟨fuel, hf⟩ := h
  obtain ⟨xs, m, rfl, hx, _, hl, hi⟩ := DataW.trod_array Try.underlying60 hf
  obtain ⟨y0, y1, rfl⟩ := list_two xs hl
  have h0 := hi 0 (by omega)
  have h1 := hi 1 (by omega)
  simp [Value.cells, cellsOfU] at h0 h1
  obtain ⟨x0, e0, _, w0⟩ := DataW.trod_int Try.underlying23 h0
  obtain ⟨x1, e1, _, w1⟩ := DataW.trod_int Try.underlying23 h1
  simp at e0 e1
  obtain ⟨n0, rfl, g0⟩ := nat_u64 w0
  obtain ⟨n1, rfl, g1⟩ := nat_u64 w1
  subst e0 e1
  exact ⟨n0, n1, rfl, g0, g1⟩
theorem open_wr {r : Reach} {b0 : Nat} {x : Value} {d : DataW H} {p : List MemPlace} (hv : Value.okWide Try.prog W r b0 71 x) (h : DataW.Trod enc Try.prog W 0 (fun _ => true) held 71 x d p) :
    ∃ (f : Nat) (a : Option Addr) (l c : Nat) (g : Nat → Nat), x = .agg #[.int .u64 (f : Int), .slice a l c] ∧ f < 18446744073709551616 ∧ (∀ i, g i ≤ 255) ∧ ReadsF (fun q => W.heap.size ≤ q) W (.slice a l c) l g := by
  obtain ⟨cs, rfl⟩ := open_agg Try.underlying71 hv
  obtain ⟨fuel, hf⟩ := h
  obtain ⟨xs, m, _, _, hl, hlen, hff⟩ := DataW.trod_struct Try.underlying71 hf
  rw [cellsOf71] at hl
  obtain ⟨c0, c1, hcs⟩ := list_two _ hl
  simp only [Value.cells] at hcs hff
  rw [hcs] at hff
  obtain ⟨y0, y1, rfl⟩ := list_two xs hlen
  have h0 := hff 0 _ rfl
  have h1 := hff 1 _ rfl
  simp [cellsOfU, cellsOfS] at h0 h1
  obtain ⟨z, e0, _, w0⟩ := DataW.trod_int Try.underlying23 h0
  simp at e0
  obtain ⟨a, l, cap, e1, g, hg1, hg2⟩ := open_bytes h1
  obtain ⟨xn, rfl, hx⟩ := nat_u64 w0
  subst e0 e1
  refine ⟨xn, a, l, cap, g, ?_, hx, hg1, hg2⟩
  cases cs; simp_all
end
end Go.Proofs.Ytcgjfklglckjcaa
