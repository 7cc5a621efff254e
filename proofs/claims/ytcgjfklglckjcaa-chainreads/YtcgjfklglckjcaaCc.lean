/- A walker: its memory, its segments; a segment more. -/
import Derived.Test.YtcgjfklglckjcaaCb
import Derived.Deep.AppendLies
import Derived.Deep.RegionHeld3
import Derived.Deep.DeepCutAuto
namespace Go.Proofs.Ytcgjfklglckjcaa
open Go.RowKit Go.Maps
set_option linter.unusedVariables false
set_option linter.unusedSimpArgs false
set_option maxRecDepth 100000
/-- what a memory is to a walk: Inv F w: it lies there, F: its blocks -/
structure Wm (rb : Nat) (M : Nat → Nat) (Inv : (Nat → Prop) → World → Prop) : Prop where
  ram : ∀ F w, Inv F w → ∃ G n lg, RamAt w G rb 8192 n lg M
  lt : ∀ F w, Inv F w → ∀ k, F k → k < w.heap.size
  step : ∀ F w G G' w', Inv F w → Step G w G' w' → (∀ k, F k → ¬ G k) → Inv F w'
theorem Wm.below {rb : Nat} {M : Nat → Nat} {Inv : (Nat → Prop) → World → Prop} (m : Wm rb M Inv) {F : Nat → Prop} {w w' : World} (h : Inv F w) (hb : Below w.heap.size w w') : Inv F w' := m.step F w (fun _ => False) (fun _ => False) w' h (Step.of_below hb) (fun _ _ h => h)
/-- all blocks of O but F's are as they were; F' has F's and none more of O's -/
structure Fly (O F : Nat → Prop) (w : World) (F' : Nat → Prop) (w' : World) : Prop where
  os : w'.os = w.os
  tape : w'.tape = w.tape
  output : w'.output = w.output
  size : w.heap.size ≤ w'.heap.size
  block : ∀ k, O k → ¬ F k → w'.heap[k]? = w.heap[k]?
  old : ∀ k, F' k → F k ∨ ¬ O k
  keep : ∀ k, F k → F' k
theorem Fly.trans {O F F' F'' : Nat → Prop} {w w' w'' : World} (h : Fly O F w F' w') (g : Fly O F' w' F'' w'') : Fly O F w F'' w'' :=
  ⟨g.os.trans h.os, g.tape.trans h.tape, g.output.trans h.output, Nat.le_trans h.size g.size,
   fun k hk hf => (g.block k hk (fun hf' => by rcases h.old k hf' with h1 | h1; exact hf h1; exact h1 hk)).trans (h.block k hk hf),
   fun k hf => by rcases g.old k hf with h1 | h1; exact h.old k h1; exact .inr h1,
   fun k hf => g.keep k (h.keep k hf)⟩
theorem Fly.of_step {O F F' : Nat → Prop} {w w' : World} (h : Step F w F' w') (hO : ∀ k, O k → k < w.heap.size) : Fly O F w F' w' :=
  ⟨h.os, h.tape, h.output, h.size, fun k hk hf => h.block k (hO k hk) hf, fun k hf => by rcases h.old k hf with h1 | h1; exact .inl h1; exact .inr (fun ho => by have := hO k ho; omega), h.keep⟩
theorem Fly.of_below {O F : Nat → Prop} {w w' : World} (h : Below w.heap.size w w') (hO : ∀ k, O k → k < w.heap.size) : Fly O F w F w' :=
  ⟨h.os, h.tape, h.output, h.size, fun k hk _ => h.block k (hO k hk), fun _ h => .inl h, fun _ h => h⟩
theorem Fly.refl (O F : Nat → Prop) (w : World) : Fly O F w F w := ⟨rfl, rfl, rfl, Nat.le_refl _, fun _ _ _ => rfl, fun _ h => .inl h, fun _ h => h⟩
theorem Fly.mono {O O' F F' : Nat → Prop} {w w' : World} (h : Fly O F w F' w') (ho : ∀ k, O' k → O k) : Fly O' F w F' w' := ⟨h.os, h.tape, h.output, h.size, fun k hk => h.block k (ho k hk), fun k hf => (h.old k hf).imp id (fun hn hh => hn (ho k hh)), h.keep⟩
theorem Fly.step {F F' : Nat → Prop} {w w' : World} (h : Fly (fun k => k < w.heap.size) F w F' w') : Step F w F' w' := ⟨h.os, h.tape, h.output, h.size, h.block, fun k hf => (h.old k hf).imp id (fun hn => by omega), h.keep⟩
/-- segments, as cells -/
def segRow (l : List Seg) : List Value := l.flatMap fun s => [.int .u64 (s.a : Nat), .int .u64 (s.l : Nat), .bool s.wr]
theorem segRow_snoc (l : List Seg) (s : Seg) : segRow (l ++ [s]) = segRow l ++ [.int .u64 (s.a : Nat), .int .u64 (s.l : Nat), .bool s.wr] := by simp [segRow]
theorem segRow_get (l : List Seg) : ∀ i (h : i < l.length), (segRow l)[i * 3]? = some (.int .u64 ((l[i]).a : Nat)) ∧ (segRow l)[i * 3 + 1]? = some (.int .u64 ((l[i]).l : Nat)) ∧ (segRow l)[i * 3 + 2]? = some (.bool (l[i]).wr) := by
  induction l with
  | nil => intro i h; simp at h
  | cons p r ih =>
    intro i h
    cases i with
    | zero => simp [segRow]
    | succ j =>
      have := ih j (by simpa using h)
      have e : segRow (p :: r) = .int .u64 (p.a : Nat) :: .int .u64 (p.l : Nat) :: .bool p.wr :: segRow r := by simp [segRow]
      rw [e, show (j + 1) * 3 = j * 3 + 1 + 1 + 1 from by omega]
      simpa using this
/-- segments that lie in blocks from B on -/
def SegIn (B : Nat) (w : World) (v : Value) (l : List Seg) : Prop := w.ownsRow B 52 3 v l.length (segRow l)
theorem SegIn.kept {B : Nat} {w w' : World} {v : Value} {l : List Seg} (h : SegIn B w v l) (hk : ∀ g, v.ownBlock = some g → w'.heap[g]? = w.heap[g]?) : SegIn B w' v l := by
  refine ⟨h.1, ?_⟩
  rcases h.2 with hn | ⟨g, cap, cur, rfl, hb, hgg, rest⟩
  · exact .inl hn
  · exact .inr ⟨g, cap, cur, rfl, hb, (hk g rfl).trans hgg, rest⟩
theorem SegIn.form {B : Nat} {w : World} {v : Value} {l : List Seg} (h : SegIn B w v l) : ∃ a c, v = .slice a l.length c := by
  rcases h.2 with ⟨rfl, h0⟩ | ⟨g, cap, cur, rfl, _⟩
  · exact ⟨none, 0, by rw [h0]⟩
  · exact ⟨_, cap, rfl⟩
theorem SegIn.lt {B : Nat} {w : World} {v : Value} {l : List Seg} (h : SegIn B w v l) : ∀ g, v.ownBlock = some g → B ≤ g ∧ g < w.heap.size := World.ownsRow.lt h
theorem SegIn.cells {B : Nat} {w : World} {v : Value} {l : List Seg} (h : SegIn B w v l) (h0 : 0 < l.length) : ∃ g c, v = .slice (some ⟨g, 0, none⟩) l.length c ∧ ∀ i (hi : i < l.length), w.cell? ⟨g, i * 3, none⟩ = some (.int .u64 ((l[i]).a : Nat)) ∧ w.cell? ⟨g, i * 3 + 1, none⟩ = some (.int .u64 ((l[i]).l : Nat)) ∧ w.cell? ⟨g, i * 3 + 2, none⟩ = some (.bool (l[i]).wr) := by
  have h' := h
  rcases h'.2 with ⟨_, h1⟩ | ⟨g, cap, cur, rfl, hb, hgg, rest⟩
  · omega
  · refine ⟨g, cap, rfl, fun i hi => ?_⟩
    have hc := World.ownsRow.cells h (g := g) rfl
    obtain ⟨e1, e2, e3⟩ := segRow_get l i hi
    have c1 := hc _ _ e1
    have c2 := hc _ _ e2
    have c3 := hc _ _ e3
    rw [addr_add, Nat.zero_add] at c1 c2 c3
    exact ⟨c1, c2, c3⟩
theorem lastW_get {l : List Seg} {i : Nat} (hi : i < l.length) (he : i + 1 = l.length) : lastW l = (l[i]).wr := by
  have : l.getLast? = some l[i] := by rw [List.getLast?_eq_getElem?, show l.length - 1 = i from by omega]; simp [hi]
  simp [lastW, this]
theorem Try.info52s : (Try.prog.info? 52).map (fun i => (i.zero, i.size, i.bytes)) = some (some (.agg #[.int .u64 0, .int .u64 0, .bool false]), 3, 24) := by kernel_rfl
theorem info52 : (Try.prog.info? 52).map (·.size) = some 3 := by kernel_rfl
theorem three_new (w : World) (x y z : Value) (t : TypeId) : ∀ j u, [x, y, z][j]? = some u → (w.alloc (.cells #[x, y, z] t)).cell? ((⟨w.heap.size, 0, none⟩ : Addr).add j) = some u := by
  intro j u hj
  rw [addr_add, Nat.zero_add]
  simp only [World.cell?, heap_alloc_new]
  match j, hj with
  | 0, hj => simpa using hj
  | 1, hj => simpa using hj
  | 2, hj => simpa using hj
theorem box3_facts {w : World} {b : Nat} {x0 x1 x2 : Value} {t : TypeId} (h : w.heap[b]? = some (.cells #[x0, x1, x2] t (0, 0))) : w.cell? ⟨b, 0, none⟩ = some x0 ∧ w.cell? ⟨b, 1, none⟩ = some x1 ∧ w.cell? ⟨b, 2, none⟩ = some x2 := ⟨cellOf h 0 _ rfl, cellOf h 1 _ rfl, cellOf h 2 _ rfl⟩
/-- a walker that lies in block wb: its memory, its segments -/
def Wd (Inv : (Nat → Prop) → World → Prop) (O F : Nat → Prop) (w : World) (rb wb : Nat) (l : List Seg) : Prop :=
  Inv F w ∧ ((∀ k, O k → k < w.heap.size) ∧ ¬ O wb) ∧ ¬ F wb ∧ ∃ v, w.heap[wb]? = some (.cells #[.pointer (some ⟨rb, 0, none⟩), v] 88 (0, 0)) ∧ SegIn 0 w v l ∧ ∀ g, v.ownBlock = some g → g ≠ wb ∧ ¬ F g ∧ ¬ O g
section
variable {rb wb : Nat} {M : Nat → Nat} {Inv : (Nat → Prop) → World → Prop} {O F : Nat → Prop} {w w' : World} {l : List Seg}
theorem Wd.lt (h : Wd Inv O F w rb wb l) : wb < w.heap.size := by
  obtain ⟨_, _, _, v, h4, _⟩ := h
  exact (Array.getElem?_eq_some_iff.1 h4).1
theorem Wd.old (h : Wd Inv O F w rb wb l) : ∀ k, O k → k < w.heap.size := h.2.1.1
theorem Wd.below (m : Wm rb M Inv) (h : Wd Inv O F w rb wb l) (hb : Below w.heap.size w w') : Wd Inv O F w' rb wb l := by
  obtain ⟨h1, h2, h3, v, h4, h5, h6⟩ := h
  exact ⟨m.below h1 hb, ⟨fun k hk => Nat.lt_of_lt_of_le (h2.1 k hk) hb.size, h2.2⟩, h3, v, below_box h4 hb, h5.kept (fun g hg => hb.block g (h5.lt g hg).2), h6⟩
theorem Wd.told (h : Wd Inv O F w rb wb l) {F' : Nat → Prop} (hi : Inv F' w') (hs : Step F w F' w') : Wd Inv O F' w' rb wb l := by
  have hlt := h.lt
  obtain ⟨h1, h2, h3, v, h4, h5, h6⟩ := h
  have hn : ∀ g, g < w.heap.size → ¬ F g → ¬ F' g := fun g hg hf hf' => by
    rcases hs.old g hf' with h | h
    · exact hf h
    · omega
  exact ⟨hi, ⟨fun k hk => Nat.lt_of_lt_of_le (h2.1 k hk) hs.size, h2.2⟩, hn wb hlt h3, v, (hs.block wb hlt h3).trans h4, h5.kept (fun g hg => hs.block g (h5.lt g hg).2 (h6 g hg).2.1), fun g hg => ⟨(h6 g hg).1, hn g (h5.lt g hg).2 (h6 g hg).2.1, (h6 g hg).2.2⟩⟩
theorem Wd.boxes (h : Wd Inv O F w rb wb l) : ∃ a c, w.heap[wb]? = some (.cells #[.pointer (some ⟨rb, 0, none⟩), .slice a l.length c] 88 (0, 0)) ∧ SegIn 0 w (.slice a l.length c) l ∧ (∀ g, (Value.slice a l.length c).ownBlock = some g → g ≠ wb ∧ ¬ F g ∧ ¬ O g) := by
  obtain ⟨h1, h2, h3, v, h4, h5, h6⟩ := h
  obtain ⟨a, c, rfl⟩ := h5.form
  exact ⟨a, c, h4, h5, h6⟩
theorem setw_box {w : World} {b : Nat} {p q u : Value} {t : TypeId} (h : w.heap[b]? = some (.cells #[p, q] t (0, 0))) : (w.setCell ⟨b, 1, none⟩ u).heap[b]? = some (.cells #[p, u] t (0, 0)) := by
  rw [setCell_eq_setRow w b 1 _ t (0, 0) u h, setRow_heap w b _ _ t _ h]; rfl
/-- a segment was appended, the walker tells it -/
theorem Wd.more (m : Wm rb M Inv) (h : Wd Inv O F w rb wb l) {a : Option Addr} {c : Nat} (hv : w.heap[wb]? = some (.cells #[.pointer (some ⟨rb, 0, none⟩), .slice a l.length c] 88 (0, 0))) {w1 : World} {g cap : Nat} {s : Seg} (hown : w1.ownsRow 0 52 3 (.slice (some ⟨g, 0, none⟩) (l.length + 1) cap) (l.length + 1) (segRow l ++ [.int .u64 (s.a : Nat), .int .u64 (s.l : Nat), .bool s.wr])) (hgr : w.grownBy w1 (Value.slice a l.length c).ownBlock) (hat : (Value.slice a l.length c).ownBlock = some g ∨ w.heap.size ≤ g) :
    Wd Inv O F (w1.setCell ⟨wb, 1, none⟩ (.slice (some ⟨g, 0, none⟩) (l.length + 1) cap)) rb wb (l ++ [s]) ∧ Fly O F w F (w1.setCell ⟨wb, 1, none⟩ (.slice (some ⟨g, 0, none⟩) (l.length + 1) cap)) := by
  have hlt := h.lt
  obtain ⟨h1, h2, h3, v, h4, h5, h6⟩ := h
  rw [hv] at h4
  simp only [Option.some.injEq, Obj.cells.injEq, Array.mk.injEq, List.cons.injEq, true_and, and_true] at h4
  subst h4
  have hF : ∀ k, F k → (w1.setCell ⟨wb, 1, none⟩ (.slice (some ⟨g, 0, none⟩) (l.length + 1) cap)).heap[k]? = w.heap[k]? := fun k hk => by
    rw [heap_setCell w1 wb 1 _ k (fun e => h3 (e ▸ hk))]
    exact hgr.block k (m.lt F w h1 k hk) (fun e => (h6 k e.symm).2.1 hk)
  have hwb : w1.heap[wb]? = some (.cells #[.pointer (some ⟨rb, 0, none⟩), .slice a l.length c] 88 (0, 0)) := (hgr.block wb hlt (fun e => (h6 wb e.symm).1 rfl)).trans hv
  have hgw : g ≠ wb := by
    rcases hat with h | h
    · exact (h6 g h).1
    · omega
  have hgF : ¬ F g := by
    rcases hat with h | h
    · exact (h6 g h).2.1
    · intro hf; have := m.lt F w h1 g hf; omega
  have hgO : ¬ O g := by
    rcases hat with h | h
    · exact (h6 g h).2.2
    · intro hf; have := h2.1 g hf; omega
  have hsz : (w1.setCell ⟨wb, 1, none⟩ (.slice (some ⟨g, 0, none⟩) (l.length + 1) cap)).heap.size = w1.heap.size := by simp [World.setCell]
  have hstep : Step (fun k => k = wb ∨ (Value.slice a l.length c).ownBlock = some k) w (fun k => k = wb ∨ (Value.slice a l.length c).ownBlock = some k) (w1.setCell ⟨wb, 1, none⟩ (.slice (some ⟨g, 0, none⟩) (l.length + 1) cap)) := by
    refine ⟨hgr.os, hgr.tape, hgr.output, by rw [hsz]; exact hgr.size, fun k hk hn => ?_, fun k hk => .inl hk, fun k hk => hk⟩
    rw [heap_setCell w1 wb 1 _ k (fun e => hn (.inl e))]
    exact hgr.block k hk (fun e => hn (.inr e.symm))
  refine ⟨⟨m.step F w _ _ _ h1 hstep (fun k hk hh => ?_), ⟨fun k hk => Nat.lt_of_lt_of_le (h2.1 k hk) hstep.size, h2.2⟩, h3, _, setw_box hwb, ?_, fun g' hg' => ?_⟩, ⟨hstep.os, hstep.tape, hstep.output, hstep.size, fun k hk hf => ?_, fun k hk => .inl hk, fun k hk => hk⟩⟩
  · rcases hh with hh | hh
    · exact h3 (hh ▸ hk)
    · exact (h6 k hh).2.1 hk
  · have e : (l ++ [s]).length = l.length + 1 := by simp
    unfold SegIn
    rw [segRow_snoc, e]
    refine ⟨hown.1, ?_⟩
    rcases hown.2 with ⟨hn, _⟩ | ⟨g', cap', cur, he, hb, hgg, rest⟩
    · cases hn
    · simp only [Value.slice.injEq, Option.some.injEq, Addr.mk.injEq, and_true, true_and] at he
      obtain ⟨rfl, rfl⟩ := he
      exact .inr ⟨_, _, cur, rfl, hb, (heap_setCell w1 wb 1 _ _ hgw).trans hgg, rest⟩
  · have : g' = g := by simpa [Value.ownBlock] using hg'.symm
    subst this
    exact ⟨hgw, hgF, hgO⟩
  · refine hstep.block k (h2.1 k hk) (fun hh => ?_)
    rcases hh with hh | hh
    · exact h2.2 (hh ▸ hk)
    · exact (h6 k hh).2.2 hk
theorem Wd.mono {O' : Nat → Prop} (h : Wd Inv O F w rb wb l) (ho : ∀ k, O' k → O k) : Wd Inv O' F w rb wb l := by
  obtain ⟨h1, h2, h3, v, h4, h5, h6⟩ := h
  exact ⟨h1, ⟨fun k hk => h2.1 k (ho k hk), fun hk => h2.2 (ho _ hk)⟩, h3, v, h4, h5, fun g hg => ⟨(h6 g hg).1, (h6 g hg).2.1, fun hk => (h6 g hg).2.2 (ho _ hk)⟩⟩
/-- a block that was made since is the walker's no more than O's -/
theorem Wd.box (m : Wm rb M Inv) (h : Wd Inv O F w rb wb l) (hb : Below w.heap.size w w') {b : Nat} (hlt : w.heap.size ≤ b) (hb2 : b < w'.heap.size) : Wd Inv (fun k => O k ∨ k = b) F w' rb wb l := by
  have hl := h.lt
  have hB := h.below m hb
  obtain ⟨h1, h2, h3, v, h4, h5, h6⟩ := hB
  obtain ⟨k1, k2, k3, v', k4, k5, k6⟩ := h
  have hv : v = v' := by
    have := h4
    rw [below_box k4 hb] at this
    simp only [Option.some.injEq, Obj.cells.injEq, Array.mk.injEq, List.cons.injEq, true_and, and_true] at this
    exact this.symm
  subst hv
  refine ⟨h1, ⟨fun k hk => hk.elim (h2.1 k) (fun e => e ▸ hb2), fun hk => hk.elim h2.2 (fun e => by omega)⟩, h3, v, h4, h5, fun g hg => ⟨(h6 g hg).1, (h6 g hg).2.1, fun hk => hk.elim (h6 g hg).2.2 (fun e => ?_)⟩⟩
  have := (k5.lt g hg).2
  omega
end
end Go.Proofs.Ytcgjfklglckjcaa
