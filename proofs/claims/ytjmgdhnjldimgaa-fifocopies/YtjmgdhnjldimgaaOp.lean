/- A script as it comes in: its calls, their numbers and their bytes; rows of bytes, rows of numbers. -/
import Derived.Test.YtjmgdhnjldimgaaDp
import Derived.ProofKit
import Derived.OpenShut
import Derived.Deep.Slices
namespace Go.Proofs.Ytjmgdhnjldimgaa
open Go.RowKit Go.ChangeShapes Go.WideShapes Go.ChangeAt
set_option linter.unusedVariables false
set_option linter.unusedSimpArgs false
set_option maxRecDepth 100000
/-- a script as it lies in the world -/
def ScriptIn (W : World) (v : Value) (len : Nat) (ops : Nat → OpD) : Prop :=
  (len = 0 ∧ ∃ a c, v = .slice a 0 c) ∨ ∃ b off cap, v = .slice (some ⟨b, off, none⟩) len cap ∧ len ≤ 9223372036854775807 ∧ ∀ i, i < len →
    (W.cell? ⟨b, off + i * 3, none⟩ = some (.int .i64 (ops i).z) ∧ W.cell? ⟨b, off + i * 3 + 1, none⟩ = some (.int .i64 (ops i).n) ∧ W.cell? ⟨b, off + i * 3 + 2, none⟩ = some (.slice (ops i).a (ops i).D.length (ops i).c)) ∧
    (ops i).In W ∧ (ops i).D.length ≤ 9223372036854775807
theorem ScriptIn.up {W w : World} {v : Value} {len : Nat} {ops : Nat → OpD} (h : ScriptIn W v len ops) (hb : Below W.heap.size W w) : ScriptIn w v len ops := by
  rcases h with h | ⟨b, off, cap, hv, hl, hc⟩
  · exact .inl h
  · refine .inr ⟨b, off, cap, hv, hl, fun i hi => ?_⟩
    obtain ⟨⟨c0, c1, c2⟩, h2, h3⟩ := hc i hi
    have hlt := block_lt_of_cell c0
    have cc : ∀ q, w.cell? ⟨b, q, none⟩ = W.cell? ⟨b, q, none⟩ := fun q => World.cell?_of_block (a := ⟨b, q, none⟩) (hb.block b hlt)
    exact ⟨⟨by rw [cc]; exact c0, by rw [cc]; exact c1, by rw [cc]; exact c2⟩, h2.step hb, h3⟩
theorem cells5 : Try.prog.cellsOf 5 = 1 := by kernel_rfl
theorem cellsOf3 : Try.prog.cellsOf 3 = 1 := by kernel_rfl
theorem cellsOf25 : Try.prog.cellsOf 25 = 1 := by kernel_rfl
theorem cellsOf45 : Try.prog.cellsOf 45 = 3 := by kernel_rfl
section
variable {H : Type} {enc : TypeId × Value → H} {W : World} {spare : Nat → Bool} {held : Bool}
theorem list_three {α : Type} (l : List α) (h : l.length = 3) : ∃ a b c, l = [a, b, c] := by
  match l, h with
  | [a, b, c], _ => exact ⟨a, b, c, rfl⟩
/-- a row of bytes that comes in -/
theorem open_bytes {n : Nat} {c : Value} {x : DataW H × List MemPlace} (h : DataW.trod enc Try.prog W 0 (fun _ => true) held n 25 [c] = some x) :
    ∃ a cap D dd, c = .slice a D.length cap ∧ D.length ≤ 9223372036854775807 ∧ (∀ x ∈ D, x ≤ 255) ∧ RL W (.slice a D.length cap) dd D := by
  rcases open_ints Try.underlying25 Try.underlying5 cells5 h with ⟨hcs, _⟩ | ⟨ad, l, cap, zs, hcs, _, hl, hm, hz, _, hcell, hwz⟩
  · simp at hcs
    exact ⟨none, 0, [], 0, hcs, by simp, fun x hx => (by cases hx), RL.nil W 0⟩
  · simp at hcs hz
    unfold maxLen at hm
    have hr : ∀ j : Nat, 0 ≤ zs[j]?.getD 0 ∧ zs[j]?.getD 0 ≤ 255 := range_u8 hwz
    have hlen : ((List.range l).map fun i => (zs[i]?.getD 0).toNat).length = l := by simp
    have hle : ∀ x ∈ (List.range l).map (fun i => (zs[i]?.getD 0).toNat), x ≤ 255 := fun x hx => by
      obtain ⟨i, _, rfl⟩ := List.mem_map.1 hx
      have := hr i
      omega
    by_cases h0 : l = 0
    · subst h0
      exact ⟨some ad, cap, [], 0, hcs, by simp, fun x hx => (by cases hx), ⟨_, cap, rfl, Nat.zero_le _, by omega, .inl rfl⟩⟩
    · obtain ⟨b, off, rfl, hcl⟩ := ints_at hcell (by omega)
      refine ⟨_, cap, _, b, by rw [hlen]; exact hcs, by rw [hlen]; omega, hle, ⟨_, cap, rfl, by rw [hlen]; omega, by omega, .inr ⟨off, rfl, fun i x hi => ?_⟩⟩⟩
      rw [List.getElem?_map] at hi
      by_cases hil : i < l
      · rw [List.getElem?_range hil] at hi
        simp at hi
        subst hi
        rw [hcl i (by omega)]
        have := hr i
        simp only [List.getD_eq_getElem?_getD]
        congr 2
        omega
      · rw [List.getElem?_eq_none (by simp; omega)] at hi
        cases hi
theorem open_op {n : Nat} {cs : List Value} {x : DataW H × List MemPlace} (h : DataW.trod enc Try.prog W 0 (fun _ => true) held n 45 cs = some x) :
    ∃ o : OpD, cs = o.cells.toList ∧ o.In W ∧ o.D.length ≤ 9223372036854775807 := by
  obtain ⟨xs, m, _, _, hl, hlen, hf⟩ := DataW.trod_struct Try.underlying45 h
  rw [cellsOf45] at hl
  obtain ⟨c0, c1, c2, rfl⟩ := list_three cs hl
  obtain ⟨y0, y1, y2, rfl⟩ := list_three xs hlen
  have h0 := hf 0 _ rfl
  have h1 := hf 1 _ rfl
  have h2 := hf 2 _ rfl
  simp [cellsOf3, cellsOf25] at h0 h1 h2
  obtain ⟨z, e0, _, w0⟩ := DataW.trod_int Try.underlying3 h0
  obtain ⟨k, e1, _, w1⟩ := DataW.trod_int Try.underlying3 h1
  simp at e0 e1
  obtain ⟨a, cap, D, dd, rfl, hl2, hf2, hr⟩ := open_bytes h2
  subst e0 e1
  exact ⟨⟨z, k, a, cap, D, dd⟩, rfl, ⟨hr, hf2⟩, hl2⟩
theorem spot_none {a : Addr} {v : Value} (h : W.cell? a = some v) : a.spot = none := by
  unfold World.cell? at h
  split at h
  · split at h
    · cases h
    · rename_i hs; simpa using hs
  · cases h
theorem open_script {v : Value} {d : DataW H} {p : List MemPlace} {a : Option Addr} {len cap : Nat} (hv : v = .slice a len cap) (h : DataW.Trod enc Try.prog W 0 (fun _ => true) held 22 v d p) : ∃ ops, ScriptIn W v len ops := by
  subst hv
  obtain ⟨fuel, hf⟩ := h
  rcases Deep.open_slice Try.underlying22 hf with ⟨hcs, _⟩ | ⟨ad, l, c, m, n, D, Pl, hcs, _, hl, hm, hmm, _, hx⟩
  · simp [Value.cells] at hcs
    obtain ⟨rfl, rfl, rfl⟩ := hcs
    exact ⟨fun _ => ⟨0, 0, none, 0, [], 0⟩, .inl ⟨rfl, _, _, rfl⟩⟩
  · simp [Value.cells] at hcs
    obtain ⟨rfl, rfl, rfl⟩ := hcs
    simp at hmm
    subst hmm
    unfold maxLen at hm
    by_cases h0 : len = 0
    · subst h0; exact ⟨fun _ => ⟨0, 0, none, 0, [], 0⟩, .inl ⟨rfl, _, _, rfl⟩⟩
    rw [cellsOf45] at hx
    obtain ⟨ops, hops⟩ := @Deep.choose_lt OpD ⟨⟨0, 0, none, 0, [], 0⟩⟩ len (fun i o => (∀ j, j < 3 → W.cell? ((ad.add (i * 3)).add j) = o.cells.toList[j]?) ∧ o.In W ∧ o.D.length ≤ 9223372036854775807) (fun i hi => by
      obtain ⟨cs', h1, h2⟩ := hx i (by omega)
      obtain ⟨o, rfl, h3, h4⟩ := open_op h2
      obtain ⟨_, _, h5⟩ := World.cells?_some h1
      exact ⟨o, h5, h3, h4⟩)
    have hsp : ad.spot = none := by
      have := (hops 0 (by omega)).1 0 (by omega)
      rw [Deep.add_add] at this
      have e0 : ad.add (0 * 3 + 0) = ad := by unfold Addr.add; simp
      rw [e0] at this
      exact spot_none (v := .int .i64 (ops 0).z) this
    obtain ⟨b, off, sp⟩ := ad
    simp only at hsp
    subst hsp
    refine ⟨ops, .inr ⟨b, off, _, rfl, by omega, fun i hi => ?_⟩⟩
    obtain ⟨hc, hin, hl2⟩ := hops i hi
    have hc' : ∀ j, j < 3 → W.cell? ⟨b, off + (i * 3 + j), none⟩ = (ops i).cells.toList[j]? := fun j hj => by
      have := hc j hj
      rwa [Deep.add_add, addr_add] at this
    exact ⟨⟨hc' 0 (by omega), hc' 1 (by omega), hc' 2 (by omega)⟩, hin, hl2⟩
/-- one call that comes in -/
theorem open_opv {v : Value} {d : DataW H} {p : List MemPlace} (hv : ∃ cs, v = .agg cs) (h : DataW.Trod enc Try.prog W 0 (fun _ => true) held 45 v d p) : ∃ o : OpD, v = .agg o.cells ∧ o.In W ∧ o.D.length ≤ 9223372036854775807 := by
  obtain ⟨cs, rfl⟩ := hv
  obtain ⟨fuel, hf⟩ := h
  obtain ⟨o, e, h1, h2⟩ := open_op hf
  refine ⟨o, ?_, h1, h2⟩
  congr 1
  apply Array.toList_inj.1
  simpa [Value.cells] using e
/-- rows of bytes that come in -/
structure ByD where
  a : Option Addr
  c : Nat
  D : List Nat
  dd : Nat
def ByD.In (o : ByD) (w : World) : Prop := RL w (.slice o.a o.D.length o.c) o.dd o.D ∧ (∀ x ∈ o.D, x ≤ 255) ∧ o.D.length ≤ 9223372036854775807
def RowsIn (W : World) (v : Value) (len : Nat) (ps : Nat → ByD) : Prop :=
  (len = 0 ∧ ∃ a c, v = .slice a 0 c) ∨ ∃ b off cap, v = .slice (some ⟨b, off, none⟩) len cap ∧ len ≤ 9223372036854775807 ∧ ∀ i, i < len → W.cell? ⟨b, off + i, none⟩ = some (.slice (ps i).a (ps i).D.length (ps i).c) ∧ (ps i).In W
theorem open_rows {v : Value} {d : DataW H} {p : List MemPlace} {a : Option Addr} {len cap : Nat} (hv : v = .slice a len cap) (h : DataW.Trod enc Try.prog W 0 (fun _ => true) held 37 v d p) : ∃ ps, RowsIn W v len ps := by
  subst hv
  obtain ⟨fuel, hf⟩ := h
  rcases Deep.open_slice Try.underlying37 hf with ⟨hcs, _⟩ | ⟨ad, l, c, m, n, D, Pl, hcs, _, hl, hm, hmm, _, hx⟩
  · simp [Value.cells] at hcs
    obtain ⟨rfl, rfl, rfl⟩ := hcs
    exact ⟨fun _ => ⟨none, 0, [], 0⟩, .inl ⟨rfl, _, _, rfl⟩⟩
  · simp [Value.cells] at hcs
    obtain ⟨rfl, rfl, rfl⟩ := hcs
    simp at hmm
    subst hmm
    unfold maxLen at hm
    by_cases h0 : len = 0
    · subst h0; exact ⟨fun _ => ⟨none, 0, [], 0⟩, .inl ⟨rfl, _, _, rfl⟩⟩
    rw [cellsOf25] at hx
    obtain ⟨ps, hops⟩ := @Deep.choose_lt ByD ⟨⟨none, 0, [], 0⟩⟩ len (fun i o => W.cell? (ad.add i) = some (.slice o.a o.D.length o.c) ∧ o.In W) (fun i hi => by
      obtain ⟨cs', h1, h2⟩ := hx i (by omega)
      obtain ⟨h6, _, h5⟩ := World.cells?_some h1
      obtain ⟨c0, rfl⟩ : ∃ c0, cs' = [c0] := by
        match cs', h6 with
        | [c0], _ => exact ⟨c0, rfl⟩
      obtain ⟨a, cap, D, dd, rfl, hl2, hf2, hr⟩ := open_bytes h2
      have h7 := h5 0 (by simp)
      rw [Nat.mul_one, Deep.add_add, Nat.add_zero] at h7
      exact ⟨⟨a, cap, D, dd⟩, h7, hr, hf2, hl2⟩)
    have hsp : ad.spot = none := by
      have := (hops 0 (by omega)).1
      have e0 : ad.add 0 = ad := by unfold Addr.add; simp
      rw [e0] at this
      exact spot_none this
    obtain ⟨b, off, sp⟩ := ad
    simp only at hsp
    subst hsp
    refine ⟨ps, .inr ⟨b, off, _, rfl, by omega, fun i hi => ?_⟩⟩
    obtain ⟨hc, hin⟩ := hops i hi
    rw [addr_add] at hc
    exact ⟨hc, hin⟩
/-- numbers that come in -/
def NumsIn (W : World) (v : Value) (len : Nat) (f : Nat → Int) : Prop :=
  (len = 0 ∧ ∃ a c, v = .slice a 0 c) ∨ ∃ b off cap, v = .slice (some ⟨b, off, none⟩) len cap ∧ len ≤ 9223372036854775807 ∧ ∀ i, i < len → W.cell? ⟨b, off + i, none⟩ = some (.int .i64 (f i))
theorem open_nums {v : Value} {d : DataW H} {p : List MemPlace} {a : Option Addr} {len cap : Nat} (hv : v = .slice a len cap) (h : DataW.Trod enc Try.prog W 0 (fun _ => true) held 38 v d p) : ∃ f, NumsIn W v len f := by
  subst hv
  obtain ⟨fuel, hf⟩ := h
  rcases open_ints Try.underlying38 Try.underlying3 cellsOf3 hf with ⟨hcs, _⟩ | ⟨ad, l, cap, zs, hcs, _, hl, hm, hz, _, hcell, hwz⟩
  · simp [Value.cells] at hcs
    obtain ⟨rfl, rfl, rfl⟩ := hcs
    exact ⟨fun _ => 0, .inl ⟨rfl, _, _, rfl⟩⟩
  · simp [Value.cells] at hcs
    obtain ⟨rfl, rfl, rfl⟩ := hcs
    simp at hz
    unfold maxLen at hm
    by_cases h0 : len = 0
    · subst h0; exact ⟨fun _ => 0, .inl ⟨rfl, _, _, rfl⟩⟩
    · obtain ⟨b, off, rfl, hcl⟩ := ints_at hcell (by omega)
      exact ⟨fun i => zs.getD i 0, .inr ⟨b, off, _, rfl, by omega, fun i hi => hcl i (by omega)⟩⟩
end
end Go.Proofs.Ytjmgdhnjldimgaa
