/- A row of calls, as it comes in. -/
import Derived.Test.YtpedollliahldaaDoorDp
import Derived.ProofKit
import Derived.OpenShut
import Derived.Deep.Slices
namespace Go.Proofs.YtpedollliahldaaDoor
open Go.ChangeShapes Go.WideShapes Go.ChangeAt Go.RowKit
set_option linter.unusedVariables false
set_option linter.unusedSimpArgs false
/-- calls, as they come in -/
def OpsIn (W : World) (v : Value) (len : Nat) (os : Nat → Int × Int × Int × Bool × Nat × Nat) : Prop :=
  (len = 0 ∧ ∃ a cap, v = .slice a 0 cap) ∨ ∃ b off cap, v = .slice (some ⟨b, off, none⟩) len cap ∧ b < W.heap.size ∧ ∀ i, i < len → (∀ j, j < 6 → W.cell? ⟨b, off + (i * 6 + j), none⟩ = [Value.int .i64 (os i).1, Value.int .i64 (os i).2.1, Value.int .i64 (os i).2.2.1, Value.bool (os i).2.2.2.1, Value.int .u64 ((os i).2.2.2.2.1 : Nat), Value.int .u64 ((os i).2.2.2.2.2 : Nat)][j]?) ∧ (os i).2.2.2.2.1 < 18446744073709551616 ∧ (os i).2.2.2.2.2 < 18446744073709551616
theorem cells3 : Tryd.prog.cellsOf 3 = 1 := by kernel_rfl
theorem cells4 : Tryd.prog.cellsOf 4 = 1 := by kernel_rfl
theorem cells39 : Tryd.prog.cellsOf 39 = 1 := by kernel_rfl
theorem cells41 : Tryd.prog.cellsOf 41 = 6 := by kernel_rfl
section
variable {H : Type} {enc : TypeId × Value → H} {W : World} {spare : Nat → Bool} {held : Bool}
theorem list_six {α : Type} (l : List α) (h : l.length = 6) : ∃ a b c d e f, l = [a, b, c, d, e, f] := by
  match l, h with
  | [a, b, c, d, e, f], _ => exact ⟨a, b, c, d, e, f, rfl⟩
theorem nat_u64 {x : Int} (h : (Lit.int .u64 x).wf = true) : ∃ n : Nat, x = n ∧ n < 18446744073709551616 := by
  have := bounds_u64 h
  exact ⟨x.toNat, by omega, by omega⟩
theorem open_o {n : Nat} {cs : List Value} {x : DataW H × List MemPlace} (h : DataW.trod enc Tryd.prog W 0 (fun _ => true) held n 41 cs = some x) :
    ∃ p : Int × Int × Int × Bool × Nat × Nat, cs = [Value.int .i64 p.1, Value.int .i64 p.2.1, Value.int .i64 p.2.2.1, Value.bool p.2.2.2.1, Value.int .u64 (p.2.2.2.2.1 : Nat), Value.int .u64 (p.2.2.2.2.2 : Nat)] ∧ p.2.2.2.2.1 < 18446744073709551616 ∧ p.2.2.2.2.2 < 18446744073709551616 := by
  obtain ⟨xs, m, _, _, hl, hlen, hf⟩ := DataW.trod_struct Tryd.underlying41 h
  rw [cells41] at hl
  obtain ⟨c0, c1, c2, c3, c4, c5, rfl⟩ := list_six cs hl
  obtain ⟨y0, y1, y2, y3, y4, y5, rfl⟩ := list_six xs hlen
  have h0 := hf 0 _ rfl
  have h1 := hf 1 _ rfl
  have h2 := hf 2 _ rfl
  have h3 := hf 3 _ rfl
  have h4 := hf 4 _ rfl
  have h5 := hf 5 _ rfl
  simp [cells3, cells4, cells39] at h0 h1 h2 h3 h4 h5
  obtain ⟨x0, e0, _, w0⟩ := DataW.trod_int Tryd.underlying3 h0
  obtain ⟨x1, e1, _, w1⟩ := DataW.trod_int Tryd.underlying3 h1
  obtain ⟨x2, e2, _, w2⟩ := DataW.trod_int Tryd.underlying3 h2
  obtain ⟨x3, e3, _⟩ := DataW.trod_bool Tryd.underlying4 h3
  obtain ⟨x4, e4, _, w4⟩ := DataW.trod_int Tryd.underlying39 h4
  obtain ⟨x5, e5, _, w5⟩ := DataW.trod_int Tryd.underlying39 h5
  simp at e0 e1 e2 e3 e4 e5
  obtain ⟨a, rfl, ha⟩ := nat_u64 w4
  obtain ⟨b, rfl, hb⟩ := nat_u64 w5
  subst e0 e1 e2 e3 e4 e5
  exact ⟨(x0, x1, x2, x3, a, b), rfl, ha, hb⟩
theorem addr_add (b o j : Nat) : (⟨b, o, none⟩ : Addr).add j = ⟨b, o + j, none⟩ := by unfold Addr.add; split <;> simp_all
theorem spot_none {a : Addr} {v : Value} (h : W.cell? a = some v) : a.spot = none := by
  unfold World.cell? at h
  split at h
  · split at h
    · cases h
    · rename_i hs; simpa using hs
  · cases h
theorem open_script {v : Value} {d : DataW H} {p : List MemPlace} {a : Option Addr} {len cap : Nat} (hv : v = .slice a len cap) (h : DataW.Trod enc Tryd.prog W 0 (fun _ => true) held 22 v d p) : ∃ os, OpsIn W v len os := by
  subst hv
  obtain ⟨fuel, hf⟩ := h
  rcases Deep.open_slice Tryd.underlying22 hf with ⟨hcs, _⟩ | ⟨ad, l, c, m, n, D, Pl, hcs, _, hl, hm, hmm, _, hx⟩
  · simp [Value.cells] at hcs
    obtain ⟨rfl, rfl, rfl⟩ := hcs
    exact ⟨fun _ => (0, 0, 0, false, 0, 0), .inl ⟨rfl, _, _, rfl⟩⟩
  · simp [Value.cells] at hcs
    obtain ⟨rfl, rfl, rfl⟩ := hcs
    simp at hmm
    subst hmm
    unfold maxLen at hm
    by_cases h0 : len = 0
    · subst h0; exact ⟨fun _ => (0, 0, 0, false, 0, 0), .inl ⟨rfl, _, _, rfl⟩⟩
    rw [cells41] at hx
    obtain ⟨os, hos⟩ := @Deep.choose_lt (Int × Int × Int × Bool × Nat × Nat) ⟨(0, 0, 0, false, 0, 0)⟩ len (fun i o => (∀ j, j < 6 → W.cell? ((ad.add (i * 6)).add j) = [Value.int .i64 o.1, Value.int .i64 o.2.1, Value.int .i64 o.2.2.1, Value.bool o.2.2.2.1, Value.int .u64 (o.2.2.2.2.1 : Nat), Value.int .u64 (o.2.2.2.2.2 : Nat)][j]?) ∧ o.2.2.2.2.1 < 18446744073709551616 ∧ o.2.2.2.2.2 < 18446744073709551616) (fun i hi => by
      obtain ⟨cs', h1, h2⟩ := hx i (by omega)
      obtain ⟨o, rfl, h3, h4⟩ := open_o h2
      obtain ⟨_, _, h5⟩ := World.cells?_some h1
      exact ⟨o, h5, h3, h4⟩)
    have hsp : ad.spot = none := by
      have := (hos 0 (by omega)).1 0 (by omega)
      rw [Deep.add_add] at this
      have e0 : ad.add (0 * 6 + 0) = ad := by unfold Addr.add; simp
      rw [e0] at this
      exact spot_none (v := .int .i64 (os 0).1) this
    obtain ⟨b, off, sp⟩ := ad
    simp only at hsp
    subst hsp
    have hc' : ∀ i, i < len → ∀ j, j < 6 → W.cell? ⟨b, off + (i * 6 + j), none⟩ = [Value.int .i64 (os i).1, Value.int .i64 (os i).2.1, Value.int .i64 (os i).2.2.1, Value.bool (os i).2.2.2.1, Value.int .u64 ((os i).2.2.2.2.1 : Nat), Value.int .u64 ((os i).2.2.2.2.2 : Nat)][j]? := fun i hi j hj => by
      have := (hos i hi).1 j hj
      rwa [Deep.add_add, addr_add] at this
    refine ⟨os, .inr ⟨b, off, _, rfl, ?_, fun i hi => ?_⟩⟩
    · exact block_lt_of_cell (hc' 0 (by omega) 0 (by omega))
    · obtain ⟨_, h1, h2⟩ := hos i hi
      exact ⟨hc' i hi, h1, h2⟩
end
end Go.Proofs.YtpedollliahldaaDoor
