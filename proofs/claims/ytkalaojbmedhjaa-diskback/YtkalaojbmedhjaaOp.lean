/- A script as it comes in: its calls, their numbers and their bytes. -/
import Derived.Test.YtkalaojbmedhjaaDs
import Derived.ProofKit
import Derived.OpenShut
import Derived.Deep.Slices
namespace Go.Proofs.Ytkalaojbmedhjaa
open Go.RowKit Go.Maps Go.ChangeShapes Go.WideShapes Go.ChangeAt
set_option linter.unusedVariables false
set_option linter.unusedSimpArgs false
set_option maxRecDepth 100000
/-- a script as it lies in the world -/
def ScriptIn (W : World) (v : Value) (len : Nat) (ops : Nat → OpD) : Prop :=
  (len = 0 ∧ ∃ a c, v = .slice a 0 c) ∨ ∃ b off cap, v = .slice (some ⟨b, off, none⟩) len cap ∧ len ≤ 9223372036854775807 ∧ ∀ i, i < len →
    (W.cell? ⟨b, off + i * 4, none⟩ = some (.int .i64 (ops i).z) ∧ W.cell? ⟨b, off + i * 4 + 1, none⟩ = some (.int .u64 ((ops i).x : Nat)) ∧ W.cell? ⟨b, off + i * 4 + 2, none⟩ = some (.int .i64 (ops i).n) ∧ W.cell? ⟨b, off + i * 4 + 3, none⟩ = some (.slice (ops i).a (ops i).l (ops i).c)) ∧
    (ops i).In (fun q => W.heap.size ≤ q) W ∧ (ops i).l ≤ 9223372036854775807
theorem OpD.In.later {o : OpD} {W w : World} {F : Nat → Prop} (h : o.In (fun q => W.heap.size ≤ q) W) (hb : Below W.heap.size W w) (hF : ∀ q, F q → W.heap.size ≤ q) : o.In F w := by
  obtain ⟨hx, f, hf, hr⟩ := h
  refine ⟨hx, f, hf, ?_⟩
  rcases hr with h | ⟨b, off, cap, hv, hn, h1, h2, hc⟩
  · exact .inl h
  · exact .inr ⟨b, off, cap, hv, fun hf => hn (hF b hf), h1, h2, fun i hi => by rw [hb.cell (p := ⟨b, off + i, none⟩) (by simp; omega)]; exact hc i hi⟩
theorem OpD.In.up {o : OpD} {W w : World} (h : o.In (fun q => W.heap.size ≤ q) W) (hb : Below W.heap.size W w) : o.In (fun q => w.heap.size ≤ q) w := h.later hb (fun q hq => Nat.le_trans hb.size hq)
theorem ScriptIn.up {W w : World} {v : Value} {len : Nat} {ops : Nat → OpD} (h : ScriptIn W v len ops) (hb : Below W.heap.size W w) : ScriptIn w v len ops := by
  rcases h with h | ⟨b, off, cap, hv, hl, hc⟩
  · exact .inl h
  · refine .inr ⟨b, off, cap, hv, hl, fun i hi => ?_⟩
    obtain ⟨⟨c0, c1, c2, c3⟩, h2, h3⟩ := hc i hi
    have hlt := block_lt_of_cell c0
    have cc : ∀ q, w.cell? ⟨b, q, none⟩ = W.cell? ⟨b, q, none⟩ := fun q => World.cell?_of_block (a := ⟨b, q, none⟩) (hb.block b hlt)
    exact ⟨⟨by rw [cc]; exact c0, by rw [cc]; exact c1, by rw [cc]; exact c2, by rw [cc]; exact c3⟩, h2.up hb, h3⟩
theorem cellsOf3 : Try.prog.cellsOf 3 = 1 := by kernel_rfl
theorem cellsOf26 : Try.prog.cellsOf 26 = 1 := by kernel_rfl
theorem cellsOf25 : Try.prog.cellsOf 25 = 1 := by kernel_rfl
theorem cellsOf39 : Try.prog.cellsOf 39 = 4 := by kernel_rfl
section
variable {H : Type} {enc : TypeId × Value → H} {W : World} {spare : Nat → Bool} {held : Bool}
theorem list_four {α : Type} (l : List α) (h : l.length = 4) : ∃ a b c d, l = [a, b, c, d] := by
  match l, h with
  | [a, b, c, d], _ => exact ⟨a, b, c, d, rfl⟩
theorem nat_u64 {x : Int} (h : (Lit.int .u64 x).wf = true) : ∃ n : Nat, x = n ∧ n < 18446744073709551616 := by
  have := bounds_u64 h
  exact ⟨x.toNat, by omega, by omega⟩
theorem open_bytes {n : Nat} {c : Value} {x : DataW H × List MemPlace} (h : DataW.trod enc Try.prog W 0 (fun _ => true) held n 25 [c] = some x) :
    ∃ a l cap, c = .slice a l cap ∧ l ≤ 9223372036854775807 ∧ ∃ f, (∀ i, f i ≤ 255) ∧ ReadsF (fun q => W.heap.size ≤ q) W (.slice a l cap) l f := by
  rcases open_ints Try.underlying25 Try.underlying5 cells5 h with ⟨hcs, _⟩ | ⟨ad, l, cap, zs, hcs, _, hl, hm, hz, _, hcell, hwz⟩
  · simp at hcs
    exact ⟨none, 0, 0, hcs, by omega, fun _ => 0, fun _ => Nat.zero_le _, .inl ⟨rfl, _, _, by omega, rfl⟩⟩
  · simp at hcs hz
    unfold maxLen at hm
    refine ⟨some ad, l, cap, hcs, by omega, ?_⟩
    have hr : ∀ j : Nat, 0 ≤ zs[j]?.getD 0 ∧ zs[j]?.getD 0 ≤ 255 := range_u8 hwz
    refine ⟨fun i => (zs[i]?.getD 0).toNat, fun i => by have := hr i; show (zs[i]?.getD 0).toNat ≤ 255; omega, ?_⟩
    by_cases h0 : l = 0
    · subst h0; exact .inl ⟨rfl, _, cap, by omega, rfl⟩
    · obtain ⟨b, off, rfl, hcl⟩ := ints_at hcell (by omega)
      have hlt : b < W.heap.size := block_lt_of_cell (hcl 0 (by omega))
      refine .inr ⟨b, off, cap, rfl, by omega, hl, by omega, fun i hi => ?_⟩
      rw [hcl i (by omega)]
      have := hr i
      simp only [List.getD_eq_getElem?_getD]
      congr 2
      omega
theorem open_op {n : Nat} {cs : List Value} {x : DataW H × List MemPlace} (h : DataW.trod enc Try.prog W 0 (fun _ => true) held n 39 cs = some x) :
    ∃ o : OpD, cs = o.cells.toList ∧ o.In (fun q => W.heap.size ≤ q) W ∧ o.l ≤ 9223372036854775807 := by
  obtain ⟨xs, m, _, _, hl, hlen, hf⟩ := DataW.trod_struct Try.underlying39 h
  rw [cellsOf39] at hl
  obtain ⟨c0, c1, c2, c3, rfl⟩ := list_four cs hl
  obtain ⟨y0, y1, y2, y3, rfl⟩ := list_four xs hlen
  have h0 := hf 0 _ rfl
  have h1 := hf 1 _ rfl
  have h2 := hf 2 _ rfl
  have h3 := hf 3 _ rfl
  simp [cellsOf3, cellsOf26, cellsOf25] at h0 h1 h2 h3
  obtain ⟨z, e0, _, w0⟩ := DataW.trod_int Try.underlying3 h0
  obtain ⟨x, e1, _, w1⟩ := DataW.trod_int Try.underlying26 h1
  obtain ⟨k, e2, _, w2⟩ := DataW.trod_int Try.underlying3 h2
  simp at e0 e1 e2
  obtain ⟨a, l, cap, rfl, hl2, f, hf2, hr⟩ := open_bytes h3
  obtain ⟨xn, rfl, hx⟩ := nat_u64 w1
  subst e0 e1 e2
  exact ⟨⟨z, xn, k, a, l, cap⟩, rfl, ⟨hx, f, hf2, hr⟩, hl2⟩
theorem spot_none {a : Addr} {v : Value} (h : W.cell? a = some v) : a.spot = none := by
  unfold World.cell? at h
  split at h
  · split at h
    · cases h
    · rename_i hs; simpa using hs
  · cases h
theorem open_script {v : Value} {d : DataW H} {p : List MemPlace} {a : Option Addr} {len cap : Nat} (hv : v = .slice a len cap) (h : DataW.Trod enc Try.prog W 0 (fun _ => true) held 22 v d p) : ∃ ops, ScriptIn W v len ops := by
  subst hv
  obtain ⟨fuel, hf⟩ := h
  rcases Deep.open_slice Try.underlying22 hf with ⟨hcs, _⟩ | ⟨ad, l, c, m, n, D, Pl, hcs, _, hl, hm, hmm, _, hx⟩
  · simp [Value.cells] at hcs
    obtain ⟨rfl, rfl, rfl⟩ := hcs
    exact ⟨fun _ => ⟨0, 0, 0, none, 0, 0⟩, .inl ⟨rfl, _, _, rfl⟩⟩
  · simp [Value.cells] at hcs
    obtain ⟨rfl, rfl, rfl⟩ := hcs
    simp at hmm
    subst hmm
    unfold maxLen at hm
    by_cases h0 : len = 0
    · subst h0; exact ⟨fun _ => ⟨0, 0, 0, none, 0, 0⟩, .inl ⟨rfl, _, _, rfl⟩⟩
    rw [cellsOf39] at hx
    obtain ⟨ops, hops⟩ := @Deep.choose_lt OpD ⟨⟨0, 0, 0, none, 0, 0⟩⟩ len (fun i o => (∀ j, j < 4 → W.cell? ((ad.add (i * 4)).add j) = o.cells.toList[j]?) ∧ o.In (fun q => W.heap.size ≤ q) W ∧ o.l ≤ 9223372036854775807) (fun i hi => by
      obtain ⟨cs', h1, h2⟩ := hx i (by omega)
      obtain ⟨o, rfl, h3, h4⟩ := open_op h2
      obtain ⟨_, _, h5⟩ := World.cells?_some h1
      exact ⟨o, h5, h3, h4⟩)
    have hsp : ad.spot = none := by
      have := (hops 0 (by omega)).1 0 (by omega)
      rw [Deep.add_add] at this
      have e0 : ad.add (0 * 4 + 0) = ad := by unfold Addr.add; simp
      rw [e0] at this
      exact spot_none (v := .int .i64 (ops 0).z) this
    obtain ⟨b, off, sp⟩ := ad
    simp only at hsp
    subst hsp
    refine ⟨ops, .inr ⟨b, off, _, rfl, by omega, fun i hi => ?_⟩⟩
    obtain ⟨hc, hin, hl2⟩ := hops i hi
    have hc' : ∀ j, j < 4 → W.cell? ⟨b, off + (i * 4 + j), none⟩ = (ops i).cells.toList[j]? := fun j hj => by
      have := hc j hj
      rwa [Deep.add_add, addr_add] at this
    exact ⟨⟨hc' 0 (by omega), hc' 1 (by omega), hc' 2 (by omega), hc' 3 (by omega)⟩, hin, hl2⟩
/-- one call that comes in -/
theorem open_opv {v : Value} {d : DataW H} {p : List MemPlace} (hv : ∃ cs, v = .agg cs) (h : DataW.Trod enc Try.prog W 0 (fun _ => true) held 39 v d p) : ∃ o : OpD, v = .agg o.cells ∧ o.In (fun q => W.heap.size ≤ q) W ∧ o.l ≤ 9223372036854775807 := by
  obtain ⟨cs, rfl⟩ := hv
  obtain ⟨fuel, hf⟩ := h
  obtain ⟨o, e, h1, h2⟩ := open_op hf
  refine ⟨o, ?_, h1, h2⟩
  congr 1
  apply Array.toList_inj.1
  simpa [Value.cells] using e
end
end Go.Proofs.Ytkalaojbmedhjaa
