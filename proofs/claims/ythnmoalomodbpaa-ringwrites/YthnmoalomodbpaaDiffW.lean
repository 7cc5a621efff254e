/- The call Differ of layer 2: where two memories differ, piece by piece. -/
import Derived.Test.YthnmoalomodbpaaDiffs
namespace Go.Proofs.Ythnmoalomodbpaa
open Go.RowKit Go.Maps
set_option linter.unusedVariables false
set_option linter.unusedSimpArgs false
/-- a block that lies where it lay, and is not the list's own -/
def Kept (w : World) (v : Value) (b : Nat) (o : Obj) : Prop := w.heap[b]? = some o ∧ v.ownBlock ≠ some b
theorem Kept.lt {w : World} {v : Value} {b : Nat} {o : Obj} (h : Kept w v b o) : b < w.heap.size := (Array.getElem?_eq_some_iff.1 h.1).1
theorem Kept.below {w w' : World} {v : Value} {b : Nat} {o : Obj} (h : Kept w v b o) (hb : Below w.heap.size w w') : Kept w' v b o := ⟨below_box h.1 hb, h.2⟩
theorem Kept.drewN {w : World} {v : Value} {b : Nat} {o : Obj} (h : Kept w v b o) (n : Nat) : Kept (w.drewN n) v b o := h
theorem Kept.stretched {B : Nat} {w w' : World} {v v' : Value} {b : Nat} {o : Obj} {l : List (Nat × Nat)} {x : Nat} (h : Kept w v b o) (hs : Stretched B w w' v v' l x) : Kept w' v' b o := by
  obtain ⟨h1, h2, h3⟩ := hs
  refine ⟨(h2.block b h.lt (fun e => h.2 e.symm)).trans h.1, fun e => ?_⟩
  rcases h3 with h3 | ⟨g, h3, hg⟩
  · exact h.2 (h3 ▸ e)
  · rw [e] at h3; cases h3; have := h.lt; omega
theorem spanRow_take (l : List (Nat × Nat)) : ∀ m, spanRow (l.take m) = (spanRow l).take (m * 2) := by
  induction l with
  | nil => intro m; simp [spanRow]
  | cons p r ih =>
    intro m
    have e : spanRow (p :: r) = .int .u64 (p.1 : Nat) :: .int .u64 (p.2 : Nat) :: spanRow r := by simp [spanRow]
    cases m with
    | zero => simp [spanRow]
    | succ m =>
      rw [List.take_succ_cons, e, show (m + 1) * 2 = m * 2 + 1 + 1 from by omega, List.take_succ_cons, List.take_succ_cons, ← ih m]
      simp [spanRow]
theorem SpanIn.cut {B : Nat} {w : World} {g n c : Nat} {l : List (Nat × Nat)} (h : SpanIn B w (.slice (some ⟨g, 0, none⟩) n c) l) (m : Nat) (hm : m ≤ l.length) : SpanIn B w (.slice (some ⟨g, 0, none⟩) m c) (l.take m) := by
  have hl := spanRow_length (l.take m)
  have h0 : (l.take m).length = m := by simp; omega
  rw [h0] at hl
  rcases h.2 with ⟨h', _⟩ | ⟨g', cap', cur, h', hb, hg, hnc, hcm, hcs, htake⟩
  · simp at h'
  · simp only [Value.slice.injEq, Option.some.injEq, Addr.mk.injEq, and_true, true_and] at h'
    obtain ⟨rfl, h2, rfl⟩ := h'
    refine ⟨?_, .inr ⟨g, c, cur, by rw [h0], hb, hg, ?_, hcm, hcs, ?_⟩⟩
    · rw [h0]; exact hl
    · rw [h0]; omega
    · rw [h0, spanRow_take, ← htake, List.take_take, Nat.min_eq_left (by omega)]
theorem look_far {w : World} {F : Nat → Prop} {rb size n : Nat} {lg : Value} {M : Nat → Nat} (h : RamAt w F rb size n lg M) (k : Nat) (hk : k < 18446744073709551616) :
    Calls Try.prog 61 #[.pointer (some ⟨rb, 0, none⟩), .int .u64 (k : Nat)] w fun e w' => ∃ b, e = .returned (.pointer (some ⟨b, 0, none⟩)) ∧ w'.heap[b]? = some (.cells (pageRow (fun i => M (k * 4096 + i))) 98 (0, 0)) ∧ Below w.heap.size w w' ∧ (F b ∨ w.heap.size ≤ b) := by
  obtain ⟨bm, pg, D, h⟩ := h
  have hlk := pages_look h.2.1 h.2.2.1 k hk
  have hc1 := h.cell1
  cases hp : pg k with
  | some b =>
    rw [hp, ptrOf_some] at hlk
    have X : Hid (_ ∧ _) := ⟨h.2.2.2.1 k b hp, h.2.2.2.2.2.2.2.2.1 k b hp⟩
    clear h hp
    go_enter Try.func61, Try.ntmps61
    go_wp2_with (first | (at_lookup; refine wpList_lookup_run rfl _ _ 92 rfl rfl rfl hlk ?_))
    go_ret
    exact ⟨b, rfl, X.out.1, Below.refl _ _, .inl X.out.2⟩
  | none =>
    rw [hp, ptrOf_none] at hlk
    have X : Hid _ := h.2.2.2.2.1 k hp
    clear h hp
    go_enter Try.func61, Try.ntmps61
    go_wp2_with (first | (at_lookup; refine wpList_lookup_run rfl _ _ 92 rfl rfl rfl hlk ?_) | (refine wpList_alloc81 rfl rfl ?_))
    go_ret
    refine ⟨w.heap.size, rfl, ?_, (Below.refl _ _).alloc (Nat.le_refl _) _, .inr (Nat.le_refl _)⟩
    rw [heap_alloc_new, zeroPage_row, pageRow_congr _ _ (fun i hi => (X.out i hi).symm)]
theorem stretch_i {B : Nat} {w : World} {v : Value} {l : List (Nat × Nat)} (h : SpanIn B w v l) (xi : Int) (x : Nat) (hxi : xi = (x : Nat)) (hx : x < 18446744073709551616) (hl : l.length < 10000) (hB : B ≤ w.heap.size) (hlo : ∀ p ∈ l, p.1 + p.2 < 18446744073709551615) :
    Calls Try.prog 62 #[v, .int .u64 xi] w fun e w' => ∃ v', e = .returned v' ∧ Stretched B w w' v v' l x := by
  subst hxi
  exact stretch_any h x hx hl hB hlo
/-- the numbers as they lie in a block -/
theorem nums_block {B : Nat} {w : World} {av : Option Addr} {cv : Nat} {ks : List Nat} (h : Nums B w (.slice av ks.length cv) ks) (h0 : 0 < ks.length) : ∃ g cur, av = some ⟨g, 0, none⟩ ∧ w.heap[g]? = some (.cells cur 22 (0, 0)) ∧ ∀ j, j < ks.length → cur[j]? = some (.int .u64 (ks.getD j 0 : Nat)) := by
  rcases h.2 with ⟨_, h1⟩ | ⟨g, cap, cur, hv, hb, hgg, hnc, hcm, hcs, htake⟩
  · omega
  · simp only [Value.slice.injEq, true_and] at hv
    refine ⟨g, cur, hv.1, hgg, fun j hj => ?_⟩
    have h2 : (numRow ks)[j]? = some (.int .u64 (ks.getD j 0 : Nat)) := by
      unfold numRow
      rw [List.getElem?_map, List.getD_eq_getElem?_getD, List.getElem?_eq_getElem hj]
      rfl
    rw [← htake, List.getElem?_take] at h2
    split at h2
    · simpa using h2
    · cases h2
end Go.Proofs.Ythnmoalomodbpaa
