/- What the statements of layer 15 are handed: bytes to be put into memory, layouts, descriptors, what is told. -/
import Derived.Test.YtcgjfklglckjcaaRb
import Derived.ProofKit
import Derived.OpenShut
import Derived.Deep.Slices
namespace Go.Proofs.Ytcgjfklglckjcaa
open Go.RowKit Go.ChangeShapes Go.WideShapes Go.ChangeAt
set_option linter.unusedVariables false
set_option linter.unusedSimpArgs false
set_option maxRecDepth 100000

theorem cellOf {w : World} {b : Nat} {c : Array Value} {t : TypeId} (h : w.heap[b]? = some (.cells c t (0, 0))) (i : Nat) (v : Value) (hi : c[i]? = some v) : w.cell? ⟨b, i, none⟩ = some v := by
  simp only [World.cell?, h]; exact hi
theorem frozenOf {w : World} {b : Nat} {c : Array Value} {t : TypeId} (h : w.heap[b]? = some (.cells c t (0, 0))) (i : Nat) : w.frozen? ⟨b, i, none⟩ = false := by
  simp [World.frozen?, h]
theorem cellsOf3 : Try.prog.cellsOf 3 = 1 := by kernel_rfl
theorem cellsOf5 : Try.prog.cellsOf 5 = 1 := by kernel_rfl
theorem cellsOf22 : Try.prog.cellsOf 23 = 1 := by kernel_rfl
theorem cellsOf24 : Try.prog.cellsOf 25 = 4 := by kernel_rfl
theorem cellsOf44 : Try.prog.cellsOf 89 = 1 := by kernel_rfl
theorem cellsOf45 : Try.prog.cellsOf 90 = 1 := by kernel_rfl
theorem cellsOf47 : Try.prog.cellsOf 92 = 4 := by kernel_rfl
theorem cellsOf51 : Try.prog.cellsOf 64 = 1 := by kernel_rfl
theorem cellsOf79 : Try.prog.cellsOf 83 = 2 := by kernel_rfl
/-- bytes that are put into memory -/
structure PutD where
  x : Nat
  a : Option Addr
  l : Nat
  c : Nat
  f : Nat → Nat
def PutD.cells (o : PutD) : Array Value := #[.int .u64 (o.x : Nat), .slice o.a o.l o.c]
def PutD.In (o : PutD) (F : Nat → Prop) (w : World) : Prop := o.x < 18446744073709551616 ∧ (∀ i, o.f i ≤ 255) ∧ ReadsF F w (.slice o.a o.l o.c) o.l o.f
/-- rows of bytes that came in -/
def PutsIn (W : World) (v : Value) (len : Nat) (ps : Nat → PutD) : Prop :=
  (len = 0 ∧ ∃ a c, v = .slice a 0 c) ∨ ∃ b off cap, v = .slice (some ⟨b, off, none⟩) len cap ∧ b < W.heap.size ∧ len ≤ 9223372036854775807 ∧ ∀ i, i < len → W.cell? ⟨b, off + i * 2, none⟩ = some (.int .u64 ((ps i).x : Nat)) ∧ W.cell? ⟨b, off + i * 2 + 1, none⟩ = some (.slice (ps i).a (ps i).l (ps i).c) ∧ (ps i).In (fun q => W.heap.size ≤ q) W
theorem PutD.In.later {o : PutD} {W w : World} {F : Nat → Prop} (h : o.In (fun q => W.heap.size ≤ q) W) (hb : Below W.heap.size W w) (hF : ∀ q, F q → W.heap.size ≤ q) : o.In F w := by
  obtain ⟨hx, hf, hr⟩ := h
  refine ⟨hx, hf, ?_⟩
  rcases hr with h | ⟨b, off, cap, h1, h2, h3, h4, hc⟩
  · exact .inl h
  · have hlt : b < W.heap.size := by
      by_cases hb' : b < W.heap.size
      · exact hb'
      · exact absurd (by show W.heap.size ≤ b; omega) h2
    exact .inr ⟨b, off, cap, h1, fun hq => by have := hF _ hq; omega, h3, h4, fun i hi => (hb.cell (p := ⟨b, off + i, none⟩) hlt).trans (hc i hi)⟩
theorem PutsIn.up {W w : World} {v : Value} {len : Nat} {ps : Nat → PutD} (h : PutsIn W v len ps) (hb : Below W.heap.size W w) : PutsIn w v len ps := by
  rcases h with h | ⟨b, off, cap, hv, hlt, hl, hc⟩
  · exact .inl h
  · refine .inr ⟨b, off, cap, hv, Nat.lt_of_lt_of_le hlt hb.size, hl, fun i hi => ⟨(hb.cell (p := ⟨b, off + i * 2, none⟩) hlt).trans (hc i hi).1, (hb.cell (p := ⟨b, off + i * 2 + 1, none⟩) hlt).trans (hc i hi).2.1, (hc i hi).2.2.later hb (fun q hq => ?_)⟩⟩
    exact Nat.le_trans hb.size hq
section
variable {H : Type} {enc : TypeId × Value → H} {W : World} {spare : Nat → Bool} {held : Bool}
theorem list_two {α : Type} (l : List α) (h : l.length = 2) : ∃ a b, l = [a, b] := by
  match l, h with
  | [a, b], _ => exact ⟨a, b, rfl⟩
theorem list_four {α : Type} (l : List α) (h : l.length = 4) : ∃ a b c d, l = [a, b, c, d] := by
  match l, h with
  | [a, b, c, d], _ => exact ⟨a, b, c, d, rfl⟩
theorem open_bytes {n : Nat} {c : Value} {x : DataW H × List MemPlace} (h : DataW.trod enc Try.prog W 0 (fun _ => true) held n 64 [c] = some x) :
    ∃ a l cap, c = .slice a l cap ∧ ∃ f, (∀ i, f i ≤ 255) ∧ ReadsF (fun q => W.heap.size ≤ q) W (.slice a l cap) l f := by
  rcases open_ints Try.underlying64 Try.underlying5 cellsOf5 h with ⟨hcs, _⟩ | ⟨ad, l, cap, zs, hcs, _, hl, hm, hz, _, hcell, hwz⟩
  · simp at hcs
    exact ⟨none, 0, 0, hcs, fun _ => 0, fun _ => Nat.zero_le _, .inl ⟨rfl, _, _, by omega, rfl⟩⟩
  · simp at hcs hz
    unfold maxLen at hm
    refine ⟨some ad, l, cap, hcs, ?_⟩
    have hr : ∀ j : Nat, 0 ≤ zs[j]?.getD 0 ∧ zs[j]?.getD 0 ≤ 255 := range_u8 hwz
    refine ⟨fun i => (zs[i]?.getD 0).toNat, fun i => by have := hr i; show (zs[i]?.getD 0).toNat ≤ 255; omega, ?_⟩
    by_cases h0 : l = 0
    · subst h0; exact .inl ⟨rfl, _, cap, by omega, rfl⟩
    · obtain ⟨b, off, rfl, hcl⟩ := ints_at hcell (by omega)
      have hlt : b < W.heap.size := block_lt_of_cell (hcl 0 (by omega))
      refine .inr ⟨b, off, cap, rfl, by omega, hl, by omega, fun i hi => ?_⟩
      rw [hcl i (by omega)]
      have := hr i
      simp only [List.getD_eq_getElem?_getD]
      congr 2
      omega
theorem open_put {n : Nat} {cs : List Value} {x : DataW H × List MemPlace} (h : DataW.trod enc Try.prog W 0 (fun _ => true) held n 83 cs = some x) :
    ∃ o : PutD, cs = o.cells.toList ∧ o.In (fun q => W.heap.size ≤ q) W := by
  obtain ⟨xs, m, _, _, hl, hlen, hf⟩ := DataW.trod_struct Try.underlying83 h
  rw [cellsOf79] at hl
  obtain ⟨c0, c1, rfl⟩ := list_two cs hl
  obtain ⟨y0, y1, rfl⟩ := list_two xs hlen
  have h0 := hf 0 _ rfl
  have h1 := hf 1 _ rfl
  simp [cellsOf22, cellsOf51] at h0 h1
  obtain ⟨z, e0, _, w0⟩ := DataW.trod_int Try.underlying23 h0
  simp at e0
  obtain ⟨a, l, cap, rfl, f, hf1, hf2⟩ := open_bytes h1
  obtain ⟨xn, rfl, hx⟩ := nat_u64 w0
  subst e0
  exact ⟨⟨xn, a, l, cap, f⟩, rfl, ⟨hx, hf1, hf2⟩⟩
theorem spot_none {a : Addr} {v : Value} (h : W.cell? a = some v) : a.spot = none := by
  unfold World.cell? at h
  split at h
  · split at h
    · cases h
    · rename_i hs; simpa using hs
  · cases h
theorem open_puts {v : Value} {d : DataW H} {p : List MemPlace} {a : Option Addr} {len cap : Nat} (hv : v = .slice a len cap) (h : DataW.Trod enc Try.prog W 0 (fun _ => true) held 22 v d p) : ∃ ops, PutsIn W v len ops := by
  subst hv
  obtain ⟨fuel, hf⟩ := h
  rcases Deep.open_slice Try.underlying22 hf with ⟨hcs, _⟩ | ⟨ad, l, c, m, n, D, Pl, hcs, _, hl, hm, hmm, _, hx⟩
  · simp [Value.cells] at hcs
    obtain ⟨rfl, rfl, rfl⟩ := hcs
    exact ⟨fun _ => ⟨0, none, 0, 0, fun _ => 0⟩, .inl ⟨rfl, _, _, rfl⟩⟩
  · simp [Value.cells] at hcs
    obtain ⟨rfl, rfl, rfl⟩ := hcs
    simp at hmm
    subst hmm
    unfold maxLen at hm
    by_cases h0 : len = 0
    · subst h0; exact ⟨fun _ => ⟨0, none, 0, 0, fun _ => 0⟩, .inl ⟨rfl, _, _, rfl⟩⟩
    rw [cellsOf79] at hx
    obtain ⟨ops, hops⟩ := @Deep.choose_lt PutD ⟨⟨0, none, 0, 0, fun _ => 0⟩⟩ len (fun i o => (∀ j, j < 2 → W.cell? ((ad.add (i * 2)).add j) = o.cells.toList[j]?) ∧ o.In (fun q => W.heap.size ≤ q) W) (fun i hi => by
      obtain ⟨cs', h1, h2⟩ := hx i (by omega)
      obtain ⟨o, rfl, h3⟩ := open_put h2
      obtain ⟨_, _, h5⟩ := World.cells?_some h1
      exact ⟨o, h5, h3⟩)
    have hsp : ad.spot = none := by
      have := (hops 0 (by omega)).1 0 (by omega)
      rw [Deep.add_add] at this
      have e0 : ad.add (0 * 2 + 0) = ad := by unfold Addr.add; simp
      rw [e0] at this
      exact spot_none (v := .int .u64 ((ops 0).x : Nat)) this
    obtain ⟨b, off, sp⟩ := ad
    simp only at hsp
    subst hsp
    have hc' : ∀ i j, i < len → j < 2 → W.cell? ⟨b, off + (i * 2 + j), none⟩ = (ops i).cells.toList[j]? := fun i j hi hj => by
      have := (hops i hi).1 j hj
      rwa [Deep.add_add, addr_add] at this
    have hlt : b < W.heap.size := block_lt_of_cell (v := .int .u64 ((ops 0).x : Nat)) (hc' 0 0 (by omega) (by omega))
    refine ⟨ops, .inr ⟨b, off, _, rfl, hlt, by omega, fun i hi => ?_⟩⟩
    exact ⟨hc' i 0 hi (by omega), hc' i 1 hi (by omega), (hops i hi).2⟩
end
/-- what is told: a kind, two words of 16 bits, one of 32 -/
structure ToldD where
  z : Int
  n : Nat
  id : Nat
  k : Nat
def ToldD.cells (o : ToldD) : Array Value := #[.int .i64 o.z, .int .u16 (o.n : Nat), .int .u16 (o.id : Nat), .int .u32 (o.k : Nat)]
def ToldD.Ok (o : ToldD) : Prop := o.n ≤ 65535 ∧ o.id ≤ 65535 ∧ o.k ≤ 4294967295
def ToldsIn (W : World) (v : Value) (len : Nat) (ts : Nat → ToldD) : Prop :=
  (len = 0 ∧ ∃ a c, v = .slice a 0 c) ∨ ∃ b off cap, v = .slice (some ⟨b, off, none⟩) len cap ∧ b < W.heap.size ∧ len ≤ 9223372036854775807 ∧ ∀ i, i < len → W.cell? ⟨b, off + i * 4, none⟩ = some (.int .i64 (ts i).z) ∧ W.cell? ⟨b, off + i * 4 + 1, none⟩ = some (.int .u16 ((ts i).n : Nat)) ∧ W.cell? ⟨b, off + i * 4 + 2, none⟩ = some (.int .u16 ((ts i).id : Nat)) ∧ W.cell? ⟨b, off + i * 4 + 3, none⟩ = some (.int .u32 ((ts i).k : Nat)) ∧ (ts i).Ok
section
variable {H : Type} {enc : TypeId × Value → H} {W : World} {spare : Nat → Bool} {held : Bool}
theorem open_agg {P : Program} {W : World} {r : Reach} {b0 : Nat} {t : TypeId} {fs : Array Field} {v : Value} (ht : P.underlying t = some (.struct fs)) (hv : Value.okWide P W r b0 t v) : ∃ cs, v = .agg cs := by
  obtain ⟨cs, rfl, _⟩ : ∃ cs, v = .agg cs ∧ cs.size = P.cellsOf t ∧ Row.okWide P W r b0 t cs := by
    simpa [Value.okWide, ht] using hv
  exact ⟨cs, rfl⟩
theorem open_lay {r : Reach} {b0 : Nat} {x : Value} {d : DataW H} {p : List MemPlace} (hv : Value.okWide Try.prog W r b0 25 x) (h : DataW.Trod enc Try.prog W 0 (fun _ => true) held 25 x d p) :
    ∃ (s : Int) (D : Nat) (A : Nat) (Uu : Nat), x = .agg #[.int .i64 (s : Int), .int .u64 (D : Int), .int .u64 (A : Int), .int .u64 (Uu : Int)] ∧ (Lit.int .i64 s).wf = true ∧ D < 18446744073709551616 ∧ A < 18446744073709551616 ∧ Uu < 18446744073709551616 := by
  obtain ⟨cs, rfl⟩ := open_agg Try.underlying25 hv
  obtain ⟨fuel, hf⟩ := h
  obtain ⟨xs, m, _, _, hl, hlen, hff⟩ := DataW.trod_struct Try.underlying25 hf
  rw [cellsOf24] at hl
  obtain ⟨c0, c1, c2, c3, hcs⟩ := list_four _ hl
  simp only [Value.cells] at hcs hff
  rw [hcs] at hff
  obtain ⟨y0, y1, y2, y3, rfl⟩ := list_four xs hlen
  have h0 := hff 0 _ rfl
  have h1 := hff 1 _ rfl
  have h2 := hff 2 _ rfl
  have h3 := hff 3 _ rfl
  simp [cellsOf3, cellsOf22, cellsOf44, cellsOf45] at h0 h1 h2 h3
  obtain ⟨z0, e0, _, w0⟩ := DataW.trod_int Try.underlying3 h0
  obtain ⟨z1, e1, _, w1⟩ := DataW.trod_int Try.underlying23 h1
  obtain ⟨z2, e2, _, w2⟩ := DataW.trod_int Try.underlying23 h2
  obtain ⟨z3, e3, _, w3⟩ := DataW.trod_int Try.underlying23 h3
  simp at e0 e1 e2 e3
  obtain ⟨n1, rfl, g1⟩ := nat_u64 w1
  obtain ⟨n2, rfl, g2⟩ := nat_u64 w2
  obtain ⟨n3, rfl, g3⟩ := nat_u64 w3
  subst e0 e1 e2 e3
  refine ⟨z0, n1, n2, n3, ?_, w0, g1, g2, g3⟩
  cases cs; simp_all
theorem open_desc {r : Reach} {b0 : Nat} {x : Value} {d : DataW H} {p : List MemPlace} (hv : Value.okWide Try.prog W r b0 92 x) (h : DataW.Trod enc Try.prog W 0 (fun _ => true) held 92 x d p) :
    ∃ (ad : Nat) (ln : Nat) (fl : Nat) (nx : Nat), x = .agg #[.int .u64 (ad : Int), .int .u32 (ln : Int), .int .u16 (fl : Int), .int .u16 (nx : Int)] ∧ ad < 18446744073709551616 ∧ ln ≤ 4294967295 ∧ fl ≤ 65535 ∧ nx ≤ 65535 := by
  obtain ⟨cs, rfl⟩ := open_agg Try.underlying92 hv
  obtain ⟨fuel, hf⟩ := h
  obtain ⟨xs, m, _, _, hl, hlen, hff⟩ := DataW.trod_struct Try.underlying92 hf
  rw [cellsOf47] at hl
  obtain ⟨c0, c1, c2, c3, hcs⟩ := list_four _ hl
  simp only [Value.cells] at hcs hff
  rw [hcs] at hff
  obtain ⟨y0, y1, y2, y3, rfl⟩ := list_four xs hlen
  have h0 := hff 0 _ rfl
  have h1 := hff 1 _ rfl
  have h2 := hff 2 _ rfl
  have h3 := hff 3 _ rfl
  simp [cellsOf3, cellsOf22, cellsOf44, cellsOf45] at h0 h1 h2 h3
  obtain ⟨z0, e0, _, w0⟩ := DataW.trod_int Try.underlying23 h0
  obtain ⟨z1, e1, _, w1⟩ := DataW.trod_int Try.underlying89 h1
  obtain ⟨z2, e2, _, w2⟩ := DataW.trod_int Try.underlying90 h2
  obtain ⟨z3, e3, _, w3⟩ := DataW.trod_int Try.underlying90 h3
  simp at e0 e1 e2 e3
  obtain ⟨n0, rfl, g0⟩ := nat_u64 w0
  obtain ⟨n1, rfl, g1⟩ := nat_u32 w1
  obtain ⟨n2, rfl, g2⟩ := nat_u16 w2
  obtain ⟨n3, rfl, g3⟩ := nat_u16 w3
  subst e0 e1 e2 e3
  refine ⟨n0, n1, n2, n3, ?_, g0, g1, g2, g3⟩
  cases cs; simp_all
end
end Go.Proofs.Ytcgjfklglckjcaa
