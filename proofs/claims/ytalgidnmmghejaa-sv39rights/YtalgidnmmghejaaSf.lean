/- What the statements of layer 10 are handed: words to be put into memory, a way, words. -/
import Derived.Test.YtalgidnmmghejaaWord
import Derived.ProofKit
import Derived.OpenShut
import Derived.Deep.Slices
namespace Go.Proofs.Ytalgidnmmghejaa
open Go.ChangeShapes Go.WideShapes Go.ChangeAt Go.RowKit
set_option linter.unusedVariables false
set_option linter.unusedSimpArgs false
set_option maxRecDepth 100000
theorem cells3 : Try.prog.cellsOf 3 = 1 := by kernel_rfl
theorem cells4 : Try.prog.cellsOf 4 = 1 := by kernel_rfl
theorem cells23 : Try.prog.cellsOf 23 = 1 := by kernel_rfl
theorem cells72 : Try.prog.cellsOf 72 = 2 := by kernel_rfl
theorem cells25 : Try.prog.cellsOf 25 = 5 := by kernel_rfl
/-- words with their addresses that came in -/
def PutsIn (W : World) (v : Value) (len : Nat) (ws : Nat → Nat × Nat) : Prop :=
  (len = 0 ∧ ∃ a c, v = .slice a 0 c) ∨ ∃ b off cap, v = .slice (some ⟨b, off, none⟩) len cap ∧ b < W.heap.size ∧ ∀ i, i < len → W.cell? ⟨b, off + i * 2, none⟩ = some (.int .u64 ((ws i).1 : Int)) ∧ W.cell? ⟨b, off + i * 2 + 1, none⟩ = some (.int .u64 ((ws i).2 : Int)) ∧ (ws i).1 < 18446744073709551616 ∧ (ws i).2 < 18446744073709551616
theorem PutsIn.below {W w : World} {v : Value} {len : Nat} {ws : Nat → Nat × Nat} (h : PutsIn W v len ws) (hb : Below W.heap.size W w) : PutsIn w v len ws := by
  rcases h with h | ⟨b, off, cap, hv, hlt, hc⟩
  · exact .inl h
  · exact .inr ⟨b, off, cap, hv, Nat.lt_of_lt_of_le hlt hb.size, fun i hi => ⟨(hb.cell (p := ⟨b, off + i * 2, none⟩) hlt).trans (hc i hi).1, (hb.cell (p := ⟨b, off + i * 2 + 1, none⟩) hlt).trans (hc i hi).2.1, (hc i hi).2.2⟩⟩
section
variable {H : Type} {enc : TypeId × Value → H} {W : World} {spare : Nat → Bool} {held : Bool}
theorem list_two {α : Type} (l : List α) (h : l.length = 2) : ∃ a b, l = [a, b] := by
  match l, h with
  | [a, b], _ => exact ⟨a, b, rfl⟩
theorem nat_u64 {x : Int} (h : (Lit.int .u64 x).wf = true) : ∃ n : Nat, x = n ∧ n < 18446744073709551616 := by
  have := bounds_u64 h
  exact ⟨x.toNat, by omega, by omega⟩
theorem open_w {n : Nat} {cs : List Value} {x : DataW H × List MemPlace} (h : DataW.trod enc Try.prog W 0 (fun _ => true) held n 72 cs = some x) :
    ∃ p : Nat × Nat, cs = [.int .u64 (p.1 : Int), .int .u64 (p.2 : Int)] ∧ p.1 < 18446744073709551616 ∧ p.2 < 18446744073709551616 := by
  obtain ⟨xs, m, _, _, hl, hlen, hf⟩ := DataW.trod_struct Try.underlying72 h
  rw [cells72] at hl
  obtain ⟨c0, c1, rfl⟩ := list_two cs hl
  obtain ⟨y0, y1, rfl⟩ := list_two xs hlen
  have h0 := hf 0 _ rfl
  have h1 := hf 1 _ rfl
  simp [cells23] at h0 h1
  obtain ⟨x0, e0, _, w0⟩ := DataW.trod_int Try.underlying23 h0
  obtain ⟨x1, e1, _, w1⟩ := DataW.trod_int Try.underlying23 h1
  simp at e0 e1
  obtain ⟨a, rfl, ha⟩ := nat_u64 w0
  obtain ⟨b, rfl, hb⟩ := nat_u64 w1
  subst e0 e1
  exact ⟨(a, b), rfl, ha, hb⟩
theorem addr_add (b o j : Nat) : (⟨b, o, none⟩ : Addr).add j = ⟨b, o + j, none⟩ := by unfold Addr.add; split <;> simp_all
theorem spot_none {a : Addr} {v : Value} (h : W.cell? a = some v) : a.spot = none := by
  unfold World.cell? at h
  split at h
  · split at h
    · cases h
    · rename_i hs; simpa using hs
  · cases h
theorem open_puts {v : Value} {d : DataW H} {p : List MemPlace} {a : Option Addr} {len cap : Nat} (hv : v = .slice a len cap) (h : DataW.Trod enc Try.prog W 0 (fun _ => true) held 22 v d p) : ∃ ws, PutsIn W v len ws := by
  subst hv
  obtain ⟨fuel, hf⟩ := h
  rcases Deep.open_slice Try.underlying22 hf with ⟨hcs, _⟩ | ⟨ad, l, c, m, n, D, Pl, hcs, _, hl, hm, hmm, _, hx⟩
  · simp [Value.cells] at hcs
    obtain ⟨rfl, rfl, rfl⟩ := hcs
    exact ⟨fun _ => (0, 0), .inl ⟨rfl, _, _, rfl⟩⟩
  · simp [Value.cells] at hcs
    obtain ⟨rfl, rfl, rfl⟩ := hcs
    simp at hmm
    subst hmm
    unfold maxLen at hm
    by_cases h0 : len = 0
    · subst h0; exact ⟨fun _ => (0, 0), .inl ⟨rfl, _, _, rfl⟩⟩
    rw [cells72] at hx
    obtain ⟨ws, hws⟩ := @Deep.choose_lt (Nat × Nat) ⟨(0, 0)⟩ len (fun i o => (∀ j, j < 2 → W.cell? ((ad.add (i * 2)).add j) = [Value.int .u64 (o.1 : Int), Value.int .u64 (o.2 : Int)][j]?) ∧ o.1 < 18446744073709551616 ∧ o.2 < 18446744073709551616) (fun i hi => by
      obtain ⟨cs', h1, h2⟩ := hx i (by omega)
      obtain ⟨o, rfl, h3, h4⟩ := open_w h2
      obtain ⟨_, _, h5⟩ := World.cells?_some h1
      exact ⟨o, h5, h3, h4⟩)
    have hsp : ad.spot = none := by
      have := (hws 0 (by omega)).1 0 (by omega)
      rw [Deep.add_add] at this
      have e0 : ad.add (0 * 2 + 0) = ad := by unfold Addr.add; simp
      rw [e0] at this
      exact spot_none (v := .int .u64 ((ws 0).1 : Int)) this
    obtain ⟨b, off, sp⟩ := ad
    simp only at hsp
    subst hsp
    have hc' : ∀ i, i < len → ∀ j, j < 2 → W.cell? ⟨b, off + (i * 2 + j), none⟩ = [Value.int .u64 ((ws i).1 : Int), Value.int .u64 ((ws i).2 : Int)][j]? := fun i hi j hj => by
      have := (hws i hi).1 j hj
      rwa [Deep.add_add, addr_add] at this
    refine ⟨ws, .inr ⟨b, off, _, rfl, ?_, fun i hi => ?_⟩⟩
    · exact block_lt_of_cell (hc' 0 (by omega) 0 (by omega))
    · obtain ⟨_, h1, h2⟩ := hws i hi
      exact ⟨hc' i hi 0 (by omega), by rw [Nat.add_assoc]; exact hc' i hi 1 (by omega), h1, h2⟩
end
theorem open_agg {P : Program} {W : World} {r : Reach} {b0 : Nat} {t : TypeId} {fs : Array Field} {v : Value} (ht : P.underlying t = some (.struct fs)) (hv : Value.okWide P W r b0 t v) : ∃ cs, v = .agg cs := by
  obtain ⟨cs, rfl, _⟩ : ∃ cs, v = .agg cs ∧ cs.size = P.cellsOf t ∧ Row.okWide P W r b0 t cs := by
    simpa [Value.okWide, ht] using hv
  exact ⟨cs, rfl⟩
theorem list_five {α : Type} (l : List α) (h : l.length = 5) : ∃ a b c d e, l = [a, b, c, d, e] := by
  match l, h with
  | [a, b, c, d, e], _ => exact ⟨a, b, c, d, e, rfl⟩
theorem open_way {H : Type} {enc : TypeId × Value → H} {W : World} {held : Bool} {r : Reach} {b0 : Nat} {x : Value} {d : DataW H} {p : List MemPlace} (hv : Value.okWide Try.prog W r b0 25 x) (h : DataW.Trod enc Try.prog W 0 (fun _ => true) held 25 x d p) :
    ∃ (satp : Nat) (kind mode : Int) (sum mxr : Bool), x = .agg #[.int .u64 (satp : Nat), .int .i64 kind, .int .i64 mode, .bool sum, .bool mxr] ∧ satp < 18446744073709551616 := by
  obtain ⟨cs, rfl⟩ := open_agg Try.underlying25 hv
  obtain ⟨fuel, hf⟩ := h
  obtain ⟨xs, m, _, _, hl, hlen, hff⟩ := DataW.trod_struct Try.underlying25 hf
  rw [cells25] at hl
  obtain ⟨c0, c1, c2, c3, c4, hcs⟩ := list_five _ hl
  simp only [Value.cells] at hcs hff
  rw [hcs] at hff
  obtain ⟨y0, y1, y2, y3, y4, rfl⟩ := list_five xs hlen
  have h0 := hff 0 _ rfl
  have h1 := hff 1 _ rfl
  have h2 := hff 2 _ rfl
  have h3 := hff 3 _ rfl
  have h4 := hff 4 _ rfl
  simp [cells3, cells23, cells4] at h0 h1 h2 h3 h4
  obtain ⟨z, e0, _, w0⟩ := DataW.trod_int Try.underlying23 h0
  obtain ⟨k, e1, _, w1⟩ := DataW.trod_int Try.underlying3 h1
  obtain ⟨mo, e2, _, w2⟩ := DataW.trod_int Try.underlying3 h2
  obtain ⟨q, e3, _⟩ := DataW.trod_bool Try.underlying4 h3
  obtain ⟨q2, e4, _⟩ := DataW.trod_bool Try.underlying4 h4
  simp at e0 e1 e2 e3 e4
  obtain ⟨n, rfl, hn⟩ := nat_u64 w0
  subst e0 e1 e2 e3 e4
  refine ⟨n, k, mo, q, q2, ?_, hn⟩
  rw [show cs = #[.int .u64 (n : Nat), .int .i64 k, .int .i64 mo, .bool q, .bool q2] from Array.toList_inj.1 hcs]
end Go.Proofs.Ytalgidnmmghejaa
