/- What a statement of layer 8 is handed: a mode, writes, lines. -/
import Derived.Test.YtalgidnmmghejaaBg
import Derived.ProofKit
import Derived.OpenShut
import Derived.Deep.Slices
namespace Go.Proofs.Ytalgidnmmghejaa.E
open Go.ChangeShapes Go.WideShapes Go.ChangeAt Go.RowKit
set_option linter.unusedVariables false
set_option linter.unusedSimpArgs false
set_option maxRecDepth 100000
theorem cells3 : Try.prog.cellsOf 3 = 1 := by kernel_rfl
theorem cells23 : Try.prog.cellsOf 23 = 1 := by kernel_rfl
theorem cellsSL : Try.prog.cellsOf 45 = 1 := by kernel_rfl
theorem cellsWT : Try.prog.cellsOf 86 = 2 := by kernel_rfl
theorem cellsST : Try.prog.cellsOf 47 = 3 := by kernel_rfl
theorem open_agg {P : Program} {W : World} {r : Reach} {b0 : Nat} {t : TypeId} {fs : Array Field} {v : Value} (ht : P.underlying t = some (.struct fs)) (hv : Value.okWide P W r b0 t v) : ∃ cs, v = .agg cs := by
  obtain ⟨cs, rfl, _⟩ : ∃ cs, v = .agg cs ∧ cs.size = P.cellsOf t ∧ Row.okWide P W r b0 t cs := by
    simpa [Value.okWide, ht] using hv
  exact ⟨cs, rfl⟩
section
variable {H : Type} {enc : TypeId × Value → H} {W : World} {spare : Nat → Bool} {held : Bool}
theorem list_two {α : Type} (l : List α) (h : l.length = 2) : ∃ a b, l = [a, b] := by
  match l, h with
  | [a, b], _ => exact ⟨a, b, rfl⟩
theorem list_three {α : Type} (l : List α) (h : l.length = 3) : ∃ a b c, l = [a, b, c] := by
  match l, h with
  | [a, b, c], _ => exact ⟨a, b, c, rfl⟩
theorem nat_u64 {x : Int} (h : (Lit.int .u64 x).wf = true) : ∃ n : Nat, x = n ∧ n < 18446744073709551616 := by
  have := bounds_u64 h
  exact ⟨x.toNat, by omega, by omega⟩
theorem open_w {n : Nat} {cs : List Value} {x : DataW H × List MemPlace} (h : DataW.trod enc Try.prog W 0 (fun _ => true) held n 86 cs = some x) :
    ∃ p : Int × Nat, cs = [.int .i64 p.1, .int .u64 (p.2 : Int)] ∧ p.2 < 18446744073709551616 := by
  obtain ⟨xs, m, _, _, hl, hlen, hf⟩ := DataW.trod_struct Try.underlying86 h
  rw [cellsWT] at hl
  obtain ⟨c0, c1, rfl⟩ := list_two cs hl
  obtain ⟨y0, y1, rfl⟩ := list_two xs hlen
  have h0 := hf 0 _ rfl
  have h1 := hf 1 _ rfl
  simp [cells3, cells23] at h0 h1
  obtain ⟨x0, e0, _, w0⟩ := DataW.trod_int Try.underlying3 h0
  obtain ⟨x1, e1, _, w1⟩ := DataW.trod_int Try.underlying23 h1
  simp at e0 e1
  obtain ⟨b, rfl, hb⟩ := nat_u64 w1
  subst e0 e1
  exact ⟨(x0, b), rfl, hb⟩
theorem addr_add (b o j : Nat) : (⟨b, o, none⟩ : Addr).add j = ⟨b, o + j, none⟩ := by unfold Addr.add; split <;> simp_all
theorem spot_none {a : Addr} {v : Value} (h : W.cell? a = some v) : a.spot = none := by
  unfold World.cell? at h
  split at h
  · split at h
    · cases h
    · rename_i hs; simpa using hs
  · cases h
theorem open_writes {fuel : Nat} {c : Value} {x : DataW H × List MemPlace} (hf : DataW.trod enc Try.prog W 0 (fun _ => true) held fuel 45 [c] = some x) : ∃ g len cap ws, c = .slice g len cap ∧ WritesIn W (.slice g len cap) len ws := by
  rcases Deep.open_slice Try.underlying45 hf with ⟨hcs, _⟩ | ⟨ad, l, cp, m, n, D, Pl, hcs, _, hl, hm, hmm, _, hx⟩
  · simp at hcs
    exact ⟨none, 0, 0, fun _ => (0, 0), hcs, .inl ⟨rfl, _, _, rfl⟩⟩
  · simp at hcs
    refine ⟨some ad, l, cp, ?_⟩
    simp at hmm
    subst hmm
    unfold maxLen at hm
    by_cases h0 : l = 0
    · subst h0; exact ⟨fun _ => (0, 0), hcs, .inl ⟨rfl, _, _, rfl⟩⟩
    rw [cellsWT] at hx
    obtain ⟨ws, hws⟩ := @Deep.choose_lt (Int × Nat) ⟨(0, 0)⟩ l (fun i o => (∀ j, j < 2 → W.cell? ((ad.add (i * 2)).add j) = [Value.int .i64 o.1, Value.int .u64 (o.2 : Int)][j]?) ∧ o.2 < 18446744073709551616) (fun i hi => by
      obtain ⟨cs', h1, h2⟩ := hx i (by omega)
      obtain ⟨o, rfl, h4⟩ := open_w h2
      obtain ⟨_, _, h5⟩ := World.cells?_some h1
      exact ⟨o, h5, h4⟩)
    have hsp : ad.spot = none := by
      have := (hws 0 (by omega)).1 0 (by omega)
      rw [Deep.add_add] at this
      have e0 : ad.add (0 * 2 + 0) = ad := by unfold Addr.add; simp
      rw [e0] at this
      exact spot_none (v := .int .i64 (ws 0).1) this
    obtain ⟨b, off, sp⟩ := ad
    simp only at hsp
    subst hsp
    have hc' : ∀ i, i < l → ∀ j, j < 2 → W.cell? ⟨b, off + (i * 2 + j), none⟩ = [Value.int .i64 (ws i).1, Value.int .u64 ((ws i).2 : Int)][j]? := fun i hi j hj => by
      have := (hws i hi).1 j hj
      rwa [Deep.add_add, addr_add] at this
    refine ⟨ws, hcs, .inr ⟨b, off, _, rfl, ?_, fun i hi => ?_⟩⟩
    · exact block_lt_of_cell (hc' 0 (by omega) 0 (by omega))
    · obtain ⟨_, h2⟩ := hws i hi
      exact ⟨hc' i hi 0 (by omega), by rw [Nat.add_assoc]; exact hc' i hi 1 (by omega), h2⟩
theorem open_start {r : Reach} {b0 : Nat} {v : Value} {d : DataW H} {p : List MemPlace} (hv : Value.okWide Try.prog W r b0 47 v) (h : DataW.Trod enc Try.prog W 0 (fun _ => true) held 47 v d p) :
    ∃ mo g len cap ln ws, v = .agg #[.int .i64 mo, .slice g len cap, .int .u64 ((ln : Nat) : Int)] ∧ ln < 18446744073709551616 ∧ WritesIn W (.slice g len cap) len ws := by
  obtain ⟨cs, rfl⟩ := open_agg Try.underlying47 hv
  obtain ⟨fuel, hf⟩ := h
  obtain ⟨xs, m, _, _, hl, hlen, hff⟩ := DataW.trod_struct Try.underlying47 hf
  rw [cellsST] at hl
  obtain ⟨c0, c1, c2, hcs⟩ := list_three _ hl
  simp only [Value.cells] at hcs hff
  rw [hcs] at hff
  obtain ⟨y0, y1, y2, rfl⟩ := list_three xs hlen
  have h0 := hff 0 _ rfl
  have h1 := hff 1 _ rfl
  have h2 := hff 2 _ rfl
  simp [cells3, cells23, cellsSL] at h0 h1 h2
  obtain ⟨z, e0, _, w0⟩ := DataW.trod_int Try.underlying3 h0
  obtain ⟨x, e2, _, w2⟩ := DataW.trod_int Try.underlying23 h2
  simp at e0 e2
  obtain ⟨g, len, cap, ws, rfl, hw⟩ := open_writes h1
  obtain ⟨ln, rfl, hln⟩ := nat_u64 w2
  subst e0 e2
  refine ⟨z, g, len, cap, ln, ws, ?_, hln, hw⟩
  rw [show cs = #[.int .i64 z, .slice g len cap, .int .u64 (ln : Int)] from Array.toList_inj.1 hcs]
end
end Go.Proofs.Ytalgidnmmghejaa.E
