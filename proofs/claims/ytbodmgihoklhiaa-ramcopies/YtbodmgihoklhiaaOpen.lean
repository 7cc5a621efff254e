/- A script that comes in as an argument, taken apart: its calls, their numbers and their bytes. -/
import Derived.Test.YtbodmgihoklhiaaPlayed
import Derived.ProofKit
import Derived.OpenShut
import Derived.Deep.Slices
namespace Go.Proofs.Ytbodmgihoklhiaa
open Go.ChangeShapes Go.WideShapes Go.ChangeAt Go.RowKit
set_option linter.unusedVariables false
theorem cellsOf3 : Try.prog.cellsOf 3 = 1 := by kernel_rfl
theorem cellsOf25 : Try.prog.cellsOf 25 = 1 := by kernel_rfl
theorem cellsOf40 : Try.prog.cellsOf 40 = 1 := by kernel_rfl
theorem cellsOf42 : Try.prog.cellsOf 42 = 5 := by kernel_rfl
theorem cellsOf5 : Try.prog.cellsOf 5 = 1 := by kernel_rfl
section
variable {H : Type} {enc : TypeId × Value → H} {W : World} {spare : Nat → Bool} {held : Bool}
theorem list_five {α : Type} (l : List α) (h : l.length = 5) : ∃ a b c d e, l = [a, b, c, d, e] := by
  match l, h with
  | [a, b, c, d, e], _ => exact ⟨a, b, c, d, e, rfl⟩
theorem nat_u64 {x : Int} (h : (Lit.int .u64 x).wf = true) : ∃ n : Nat, x = n ∧ n < 18446744073709551616 := by
  have := bounds_u64 h
  exact ⟨x.toNat, by omega, by omega⟩
theorem open_bytes {n : Nat} {c : Value} {x : DataW H × List MemPlace} (h : DataW.trod enc Try.prog W 0 (fun _ => true) held n 40 [c] = some x) :
    ∃ a l cap, c = .slice a l cap ∧ l ≤ 9223372036854775807 ∧ ∃ f, (∀ i, f i ≤ 255) ∧ ReadsF (fun q => W.heap.size ≤ q) W (.slice a l cap) l f := by
  rcases open_ints Try.underlying40 Try.underlying5 cellsOf5 h with ⟨hcs, _⟩ | ⟨ad, l, cap, zs, hcs, _, hl, hm, hz, _, hcell, hwz⟩
  · simp at hcs
    exact ⟨none, 0, 0, hcs, by omega, fun _ => 0, fun _ => Nat.zero_le _, .inl ⟨rfl, _, _, by omega, rfl⟩⟩
  · simp at hcs hz
    unfold maxLen at hm
    refine ⟨some ad, l, cap, hcs, by omega, ?_⟩
    have hr : ∀ j : Nat, 0 ≤ zs[j]?.getD 0 ∧ zs[j]?.getD 0 ≤ 255 := range_u8 hwz
    refine ⟨fun i => (zs[i]?.getD 0).toNat, fun i => by have := hr i; show (zs[i]?.getD 0).toNat ≤ 255; omega, ?_⟩
    by_cases h0 : l = 0
    · subst h0; exact .inl ⟨rfl, _, cap, by omega, rfl⟩
    · obtain ⟨b, off, rfl, hcl⟩ := ints_at hcell (by omega)
      have hlt : b < W.heap.size := block_lt_of_cell (hcl 0 (by omega))
      refine .inr ⟨b, off, cap, rfl, by omega, hl, by omega, fun i hi => ?_⟩
      rw [hcl i (by omega)]
      have := hr i
      simp only [List.getD_eq_getElem?_getD]
      congr 2
      omega
theorem open_op {n : Nat} {cs : List Value} {x : DataW H × List MemPlace} (h : DataW.trod enc Try.prog W 0 (fun _ => true) held n 42 cs = some x) :
    ∃ o : OpD, cs = o.cells.toList ∧ o.In (fun q => W.heap.size ≤ q) W ∧ o.l ≤ 9223372036854775807 := by
  obtain ⟨xs, m, _, _, hl, hlen, hf⟩ := DataW.trod_struct Try.underlying42 h
  rw [cellsOf42] at hl
  obtain ⟨c0, c1, c2, c3, c4, rfl⟩ := list_five cs hl
  obtain ⟨y0, y1, y2, y3, y4, rfl⟩ := list_five xs hlen
  have h0 := hf 0 _ rfl
  have h1 := hf 1 _ rfl
  have h2 := hf 2 _ rfl
  have h3 := hf 3 _ rfl
  have h4 := hf 4 _ rfl
  simp [cellsOf3, cellsOf25, cellsOf40] at h0 h1 h2 h3 h4
  obtain ⟨z, e0, _, w0⟩ := DataW.trod_int Try.underlying3 h0
  obtain ⟨x, e1, _, w1⟩ := DataW.trod_int Try.underlying25 h1
  obtain ⟨k, e2, _, w2⟩ := DataW.trod_int Try.underlying3 h2
  obtain ⟨y, e3, _, w3⟩ := DataW.trod_int Try.underlying25 h3
  simp at e0 e1 e2 e3
  obtain ⟨a, l, cap, rfl, hl2, hb⟩ := open_bytes h4
  obtain ⟨xn, rfl, hx⟩ := nat_u64 w1
  obtain ⟨yn, rfl, hy⟩ := nat_u64 w3
  subst e0 e1 e2 e3
  exact ⟨⟨z, xn, k, yn, a, l, cap⟩, rfl, ⟨hx, hy, hb⟩, hl2⟩
theorem spot_none {a : Addr} {v : Value} (h : W.cell? a = some v) : a.spot = none := by
  unfold World.cell? at h
  split at h
  · split at h
    · cases h
    · rename_i hs; simpa using hs
  · cases h
theorem open_script {v : Value} {d : DataW H} {p : List MemPlace} {a : Option Addr} {len cap : Nat} (hv : v = .slice a len cap) (h : DataW.Trod enc Try.prog W 0 (fun _ => true) held 22 v d p) : ∃ ops, ScriptIn W v len ops := by
  subst hv
  obtain ⟨fuel, hf⟩ := h
  rcases Deep.open_slice Try.underlying22 hf with ⟨hcs, _⟩ | ⟨ad, l, c, m, n, D, Pl, hcs, _, hl, hm, hmm, _, hx⟩
  · simp [Value.cells] at hcs
    obtain ⟨rfl, rfl, rfl⟩ := hcs
    exact ⟨fun _ => ⟨0, 0, 0, 0, none, 0, 0⟩, .inl ⟨rfl, _, _, rfl⟩⟩
  · simp [Value.cells] at hcs
    obtain ⟨rfl, rfl, rfl⟩ := hcs
    simp at hmm
    subst hmm
    unfold maxLen at hm
    by_cases h0 : len = 0
    · subst h0; exact ⟨fun _ => ⟨0, 0, 0, 0, none, 0, 0⟩, .inl ⟨rfl, _, _, rfl⟩⟩
    rw [cellsOf42] at hx
    obtain ⟨ops, hops⟩ := @Deep.choose_lt OpD ⟨⟨0, 0, 0, 0, none, 0, 0⟩⟩ len (fun i o => (∀ j, j < 5 → W.cell? ((ad.add (i * 5)).add j) = o.cells.toList[j]?) ∧ o.In (fun q => W.heap.size ≤ q) W ∧ o.l ≤ 9223372036854775807) (fun i hi => by
      obtain ⟨cs', h1, h2⟩ := hx i (by omega)
      obtain ⟨o, rfl, h3, h4⟩ := open_op h2
      obtain ⟨_, _, h5⟩ := World.cells?_some h1
      exact ⟨o, h5, h3, h4⟩)
    have hsp : ad.spot = none := by
      have := (hops 0 (by omega)).1 0 (by omega)
      rw [Deep.add_add] at this
      have e0 : ad.add (0 * 5 + 0) = ad := by unfold Addr.add; simp
      rw [e0] at this
      exact spot_none (v := .int .i64 (ops 0).z) this
    obtain ⟨b, off, sp⟩ := ad
    simp only at hsp
    subst hsp
    refine ⟨ops, .inr ⟨b, off, _, rfl, by omega, fun i hi => ?_⟩⟩
    obtain ⟨hc, hin, hl2⟩ := hops i hi
    have hc' : ∀ j, j < 5 → W.cell? ⟨b, off + (i * 5 + j), none⟩ = (ops i).cells.toList[j]? := fun j hj => by
      have := hc j hj
      rwa [Deep.add_add, addr_add] at this
    exact ⟨hc' 0 (by omega), hc' 1 (by omega), hc' 2 (by omega), hc' 3 (by omega), hc' 4 (by omega), hin, hl2⟩
end
end Go.Proofs.Ytbodmgihoklhiaa
