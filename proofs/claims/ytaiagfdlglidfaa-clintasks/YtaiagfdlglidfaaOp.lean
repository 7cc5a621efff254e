/- A call, and a row of calls, as they come in. -/
import Derived.Test.YtaiagfdlglidfaaAw
import Derived.ProofKit
import Derived.OpenShut
import Derived.Deep.Slices
namespace Go.Proofs.Ytaiagfdlglidfaa
open Go.ChangeShapes Go.WideShapes Go.ChangeAt Go.RowKit
set_option linter.unusedVariables false
set_option linter.unusedSimpArgs false
/-- calls, as they come in -/
def OpsIn (W : World) (v : Value) (len : Nat) (os : Nat → Int × Nat × Int × Nat) : Prop :=
  (len = 0 ∧ ∃ a cap, v = .slice a 0 cap) ∨ ∃ b off cap, v = .slice (some ⟨b, off, none⟩) len cap ∧ b < W.heap.size ∧ ∀ i, i < len → (∀ j, j < 4 → W.cell? ⟨b, off + (i * 4 + j), none⟩ = [Value.int .i64 (os i).1, Value.int .u64 ((os i).2.1 : Nat), Value.int .i64 (os i).2.2.1, Value.int .u64 ((os i).2.2.2 : Nat)][j]?) ∧ (os i).2.1 < 18446744073709551616 ∧ (os i).2.2.2 < 18446744073709551616
theorem cells3 : Try.prog.cellsOf 3 = 1 := by kernel_rfl
theorem cells24 : Try.prog.cellsOf 24 = 1 := by kernel_rfl
theorem cells30 : Try.prog.cellsOf 30 = 4 := by kernel_rfl
section
variable {H : Type} {enc : TypeId × Value → H} {P : Program} {w : World} {base : Nat} {spare : Nat → Bool} {held : Bool}
theorem list_two {α : Type} (l : List α) (h : l.length = 2) : ∃ a b, l = [a, b] := by
  match l, h with
  | [a, b], _ => exact ⟨a, b, rfl⟩

theorem open_pair {r : Reach} {b0 : Nat} {t e : TypeId} {k : IntKind} {v : Value} {d : DataW H} {p : List MemPlace} (ht : P.underlying t = some (.array 2 e)) (he : P.underlying e = some (.int k)) (hce : P.cellsOf e = 1) (hct : P.cellsOf t = 2)
    (hv : Value.okWide P w r b0 t v) (h : DataW.Trod enc P w base spare held t v d p) :
    ∃ x0 x1 : Int, v = .agg #[.int k x0, .int k x1] ∧ d = .agg [.lit (.int k x0), .lit (.int k x1)] ∧ p = [] ∧ (Lit.int k x0).wf = true ∧ (Lit.int k x1).wf = true := by
  obtain ⟨cs, rfl, hsz, _⟩ : ∃ cs, v = .agg cs ∧ cs.size = P.cellsOf t ∧ Row.okWide P w r b0 t cs := by
    simpa [Value.okWide, ht] using hv
  rw [hct] at hsz
  obtain ⟨l⟩ := cs
  obtain ⟨c0, c1, rfl⟩ := list_two l hsz
  obtain ⟨fuel, hf⟩ := h
  obtain ⟨xs, m, rfl, hx, _, hl, hi⟩ := DataW.trod_array ht hf
  obtain ⟨y0, y1, rfl⟩ := list_two xs hl
  have h0 := hi 0 (by omega)
  have h1 := hi 1 (by omega)
  simp [Value.cells, hce] at h0 h1
  obtain ⟨x0, e0, rfl, w0⟩ := DataW.trod_int he h0
  obtain ⟨x1, e1, rfl, w1⟩ := DataW.trod_int he h1
  simp at e0 e1
  subst e0 e1
  simp at hx
  exact ⟨x0, x1, rfl, hx.1, hx.2, w0, w1⟩

end
theorem open_agg {P : Program} {W : World} {r : Reach} {b0 : Nat} {t : TypeId} {fs : Array Field} {v : Value} (ht : P.underlying t = some (.struct fs)) (hv : Value.okWide P W r b0 t v) : ∃ cs, v = .agg cs := by
  obtain ⟨cs, rfl, _⟩ : ∃ cs, v = .agg cs ∧ cs.size = P.cellsOf t ∧ Row.okWide P W r b0 t cs := by
    simpa [Value.okWide, ht] using hv
  exact ⟨cs, rfl⟩
section
variable {H : Type} {enc : TypeId × Value → H} {W : World} {spare : Nat → Bool} {held : Bool}
theorem list_four {α : Type} (l : List α) (h : l.length = 4) : ∃ a b c d, l = [a, b, c, d] := by
  match l, h with
  | [a, b, c, d], _ => exact ⟨a, b, c, d, rfl⟩
theorem nat_u64 {x : Int} (h : (Lit.int .u64 x).wf = true) : ∃ n : Nat, x = n ∧ n < 18446744073709551616 := by
  have := bounds_u64 h
  exact ⟨x.toNat, by omega, by omega⟩
theorem open_o {n : Nat} {cs : List Value} {x : DataW H × List MemPlace} (h : DataW.trod enc Try.prog W 0 (fun _ => true) held n 30 cs = some x) :
    ∃ p : Int × Nat × Int × Nat, cs = [Value.int .i64 p.1, Value.int .u64 (p.2.1 : Nat), Value.int .i64 p.2.2.1, Value.int .u64 (p.2.2.2 : Nat)] ∧ p.2.1 < 18446744073709551616 ∧ p.2.2.2 < 18446744073709551616 := by
  obtain ⟨xs, m, _, _, hl, hlen, hf⟩ := DataW.trod_struct Try.underlying30 h
  rw [cells30] at hl
  obtain ⟨c0, c1, c2, c3, rfl⟩ := list_four cs hl
  obtain ⟨y0, y1, y2, y3, rfl⟩ := list_four xs hlen
  have h0 := hf 0 _ rfl
  have h1 := hf 1 _ rfl
  have h2 := hf 2 _ rfl
  have h3 := hf 3 _ rfl
  simp [cells3, cells24] at h0 h1 h2 h3
  obtain ⟨x0, e0, _, w0⟩ := DataW.trod_int Try.underlying3 h0
  obtain ⟨x1, e1, _, w1⟩ := DataW.trod_int Try.underlying24 h1
  obtain ⟨x2, e2, _, w2⟩ := DataW.trod_int Try.underlying3 h2
  obtain ⟨x3, e3, _, w3⟩ := DataW.trod_int Try.underlying24 h3
  simp at e0 e1 e2 e3
  obtain ⟨a, rfl, ha⟩ := nat_u64 w1
  obtain ⟨b, rfl, hb⟩ := nat_u64 w3
  subst e0 e1 e2 e3
  exact ⟨(x0, a, x2, b), rfl, ha, hb⟩
theorem addr_add (b o j : Nat) : (⟨b, o, none⟩ : Addr).add j = ⟨b, o + j, none⟩ := by unfold Addr.add; split <;> simp_all
theorem spot_none {a : Addr} {v : Value} (h : W.cell? a = some v) : a.spot = none := by
  unfold World.cell? at h
  split at h
  · split at h
    · cases h
    · rename_i hs; simpa using hs
  · cases h
theorem open_script {v : Value} {d : DataW H} {p : List MemPlace} {a : Option Addr} {len cap : Nat} (hv : v = .slice a len cap) (h : DataW.Trod enc Try.prog W 0 (fun _ => true) held 22 v d p) : ∃ os, OpsIn W v len os := by
  subst hv
  obtain ⟨fuel, hf⟩ := h
  rcases Deep.open_slice Try.underlying22 hf with ⟨hcs, _⟩ | ⟨ad, l, c, m, n, D, Pl, hcs, _, hl, hm, hmm, _, hx⟩
  · simp [Value.cells] at hcs
    obtain ⟨rfl, rfl, rfl⟩ := hcs
    exact ⟨fun _ => (0, 0, 0, 0), .inl ⟨rfl, _, _, rfl⟩⟩
  · simp [Value.cells] at hcs
    obtain ⟨rfl, rfl, rfl⟩ := hcs
    simp at hmm
    subst hmm
    unfold maxLen at hm
    by_cases h0 : len = 0
    · subst h0; exact ⟨fun _ => (0, 0, 0, 0), .inl ⟨rfl, _, _, rfl⟩⟩
    rw [cells30] at hx
    obtain ⟨os, hos⟩ := @Deep.choose_lt (Int × Nat × Int × Nat) ⟨(0, 0, 0, 0)⟩ len (fun i o => (∀ j, j < 4 → W.cell? ((ad.add (i * 4)).add j) = [Value.int .i64 o.1, Value.int .u64 (o.2.1 : Nat), Value.int .i64 o.2.2.1, Value.int .u64 (o.2.2.2 : Nat)][j]?) ∧ o.2.1 < 18446744073709551616 ∧ o.2.2.2 < 18446744073709551616) (fun i hi => by
      obtain ⟨cs', h1, h2⟩ := hx i (by omega)
      obtain ⟨o, rfl, h3, h4⟩ := open_o h2
      obtain ⟨_, _, h5⟩ := World.cells?_some h1
      exact ⟨o, h5, h3, h4⟩)
    have hsp : ad.spot = none := by
      have := (hos 0 (by omega)).1 0 (by omega)
      rw [Deep.add_add] at this
      have e0 : ad.add (0 * 4 + 0) = ad := by unfold Addr.add; simp
      rw [e0] at this
      exact spot_none (v := .int .i64 (os 0).1) this
    obtain ⟨b, off, sp⟩ := ad
    simp only at hsp
    subst hsp
    have hc' : ∀ i, i < len → ∀ j, j < 4 → W.cell? ⟨b, off + (i * 4 + j), none⟩ = [Value.int .i64 (os i).1, Value.int .u64 ((os i).2.1 : Nat), Value.int .i64 (os i).2.2.1, Value.int .u64 ((os i).2.2.2 : Nat)][j]? := fun i hi j hj => by
      have := (hos i hi).1 j hj
      rwa [Deep.add_add, addr_add] at this
    refine ⟨os, .inr ⟨b, off, _, rfl, ?_, fun i hi => ?_⟩⟩
    · exact block_lt_of_cell (hc' 0 (by omega) 0 (by omega))
    · obtain ⟨_, h1, h2⟩ := hos i hi
      exact ⟨hc' i hi, h1, h2⟩
theorem open_opv {r : Reach} {b0 : Nat} {x : Value} {d : DataW H} {p : List MemPlace} (hv : Value.okWide Try.prog W r b0 30 x) (h : DataW.Trod enc Try.prog W 0 (fun _ => true) held 30 x d p) :
    ∃ o : Int × Nat × Int × Nat, x = .agg #[.int .i64 o.1, .int .u64 (o.2.1 : Nat), .int .i64 o.2.2.1, .int .u64 (o.2.2.2 : Nat)] ∧ o.2.1 < 18446744073709551616 ∧ o.2.2.2 < 18446744073709551616 := by
  obtain ⟨cs, rfl⟩ := open_agg Try.underlying30 hv
  obtain ⟨fuel, hf⟩ := h
  obtain ⟨o, hcs, h1, h2⟩ := open_o hf
  simp only [Value.cells] at hcs
  refine ⟨o, ?_, h1, h2⟩
  rw [show cs = #[.int .i64 o.1, .int .u64 (o.2.1 : Nat), .int .i64 o.2.2.1, .int .u64 (o.2.2.2 : Nat)] from Array.toList_inj.1 hcs]
end
end Go.Proofs.Ytaiagfdlglidfaa
