/- Lists of pieces: the call add of layer 2, and the document's call Same. -/
import Derived.Test.YtcgjfklglckjcaaMh
namespace Go.Proofs.Ytcgjfklglckjcaa
open Go.RowKit Go.Maps
set_option linter.unusedVariables false
/-- pieces, as cells -/
def spanRow (l : List (Nat × Nat)) : List Value := l.flatMap fun p => [.int .u64 (p.1 : Nat), .int .u64 (p.2 : Nat)]
theorem spanRow_snoc (l : List (Nat × Nat)) (x L : Nat) : spanRow (l ++ [(x, L)]) = spanRow l ++ [.int .u64 (x : Nat), .int .u64 (L : Nat)] := by simp [spanRow]
theorem spanRow_get (l : List (Nat × Nat)) : ∀ i (h : i < l.length), (spanRow l)[i * 2]? = some (.int .u64 ((l[i]).1 : Nat)) ∧ (spanRow l)[i * 2 + 1]? = some (.int .u64 ((l[i]).2 : Nat)) := by
  induction l with
  | nil => intro i h; simp at h
  | cons p r ih =>
    intro i h
    cases i with
    | zero => simp [spanRow]
    | succ j =>
      have := ih j (by simpa using h)
      have e : spanRow (p :: r) = .int .u64 (p.1 : Nat) :: .int .u64 (p.2 : Nat) :: spanRow r := by simp [spanRow]
      rw [e, show (j + 1) * 2 = j * 2 + 1 + 1 from by omega]
      simpa using this
/-- a list of pieces that lies in blocks from B on -/
def SpanIn (B : Nat) (w : World) (v : Value) (l : List (Nat × Nat)) : Prop := w.ownsRow B 38 2 v l.length (spanRow l)
theorem SpanIn.kept {B : Nat} {w w' : World} {v : Value} {l : List (Nat × Nat)} (h : SpanIn B w v l) (hk : ∀ g, v.ownBlock = some g → w'.heap[g]? = w.heap[g]?) : SpanIn B w' v l := by
  refine ⟨h.1, ?_⟩
  rcases h.2 with hn | ⟨g, cap, cur, rfl, hb, hgg, rest⟩
  · exact .inl hn
  · exact .inr ⟨g, cap, cur, rfl, hb, (hk g rfl).trans hgg, rest⟩
theorem SpanIn.form {B : Nat} {w : World} {v : Value} {l : List (Nat × Nat)} (h : SpanIn B w v l) : ∃ a c, v = .slice a l.length c := by
  rcases h.2 with ⟨rfl, h0⟩ | ⟨g, cap, cur, rfl, _⟩
  · exact ⟨none, 0, by rw [h0]⟩
  · exact ⟨_, cap, rfl⟩
theorem SpanIn.lt {B : Nat} {w : World} {v : Value} {l : List (Nat × Nat)} (h : SpanIn B w v l) : ∀ g, v.ownBlock = some g → B ≤ g ∧ g < w.heap.size := World.ownsRow.lt h
theorem Try.info38 : (Try.prog.info? 38).map (fun i => (i.zero, i.size, i.bytes)) = some (some (.agg #[.int .u64 0, .int .u64 0]), 2, 16) := by kernel_rfl
theorem two_new (w : World) (x y : Value) (t : TypeId) : ∀ j u, [x, y][j]? = some u → (w.alloc (.cells #[x, y] t)).cell? ((⟨w.heap.size, 0, none⟩ : Addr).add j) = some u := by
  intro j u hj
  rw [addr_add, Nat.zero_add]
  simp only [World.cell?, heap_alloc_new]
  match j, hj with
  | 0, hj => simpa using hj
  | 1, hj => simpa using hj
/-- what an append to a list of pieces leaves -/
def Added (B : Nat) (w w' : World) (v v' : Value) (l : List (Nat × Nat)) (x L : Nat) : Prop :=
  SpanIn B w' v' (l ++ [(x, L)]) ∧ w.grownBy w' v.ownBlock ∧ (v'.ownBlock = v.ownBlock ∨ ∃ g, v'.ownBlock = some g ∧ w.heap.size ≤ g)
theorem added_of {B : Nat} {w w1 : World} {v v' : Value} {l : List (Nat × Nat)} {x L : Nat} {o : Obj} (hown' : w1.ownsRow B 38 2 v' (l.length + 1) (spanRow l ++ [.int .u64 (x : Nat), .int .u64 (L : Nat)])) (hg : (w.alloc o).grownBy w1 v.ownBlock) (hat : v'.ownBlock = v.ownBlock ∨ v'.ownBlock = some (w.alloc o).heap.size) : Added B w w1 v v' l x L := by
  refine ⟨?_, (World.grownBy_alloc w o _).trans hg, ?_⟩
  · unfold SpanIn
    rw [spanRow_snoc, List.length_append]
    exact hown'
  · rcases hat with h | h
    · exact .inl h
    · exact .inr ⟨_, h, by simp⟩
set_option maxRecDepth 100000 in
theorem add_any {B : Nat} {w : World} {v : Value} {l : List (Nat × Nat)} (h : SpanIn B w v l) (x L : Nat) (hl : l.length < 4096) (hB : B ≤ w.heap.size) :
    Calls Try.prog 69 #[v, .int .u64 (x : Nat), .int .u64 (L : Nat)] w fun e w' => ∃ v', e = .returned v' ∧ Added B w w' v v' l x L := by
  obtain ⟨i0, hi, hz0, hz1, hz2⟩ := info_parts Try.info38
  obtain ⟨a, c, rfl⟩ := h.form
  have hl2 : (l.length : Int) < 4096 := by omega
  have H : Hid _ := h
  clear h
  generalize hn : l.length = n at *
  have HN : Hid (l.length = n) := hn
  clear hn
  go_enter Try.func69, Try.ntmps69
  go_wp2_with (first | (at_builtin; refine wpList_append_own_at _ rfl _ _ 54 rfl B 38 i0 (.agg #[.int .u64 0, .int .u64 0]) 2 16 Try.underlying54 hi hz0 hz1 hz2 rfl (by decide) _ n (spanRow l) rfl (World.ownsRow.alloc H.out _) ⟨w.heap.size, 0, none⟩ 1 1 [.int .u64 (x : Nat), .int .u64 (L : Nat)] rfl rfl (two_new _ _ _ _) (by intro u hu; simp at hu; rcases hu with rfl | rfl <;> rfl) (by unfold maxLen; omega) (by omega) (by simp; omega) ?_; intro v' w1 hown' hgrow hnil hat))
  go_ret
  exact ⟨v', rfl, added_of (by rw [HN.out]; exact hown') hgrow hat⟩
theorem SpanIn.cells {B : Nat} {w : World} {v : Value} {l : List (Nat × Nat)} (h : SpanIn B w v l) (h0 : 0 < l.length) : ∃ g c, v = .slice (some ⟨g, 0, none⟩) l.length c ∧ ∀ i, i < l.length → w.cell? ⟨g, i * 2, none⟩ = some (.int .u64 ((l.getD i (0, 0)).1 : Nat)) ∧ w.cell? ⟨g, i * 2 + 1, none⟩ = some (.int .u64 ((l.getD i (0, 0)).2 : Nat)) := by
  have h' := h
  rcases h'.2 with ⟨_, h1⟩ | ⟨g, cap, cur, rfl, hb, hgg, rest⟩
  · omega
  · refine ⟨g, cap, rfl, fun i hi => ?_⟩
    have hc := World.ownsRow.cells h (g := g) rfl
    obtain ⟨e1, e2⟩ := spanRow_get l i hi
    have c1 := hc _ _ e1
    have c2 := hc _ _ e2
    rw [addr_add, Nat.zero_add] at c1 c2
    have e3 : l.getD i (0, 0) = l[i] := by simp [List.getD, hi]
    rw [e3]
    exact ⟨c1, c2⟩
set_option maxHeartbeats 400000 in
theorem same_spans {B : Nat} {w : World} {v1 v2 : Value} {l : List (Nat × Nat)} (r1 : SpanIn B w v1 l) (r2 : SpanIn B w v2 l) (hn : l.length ≤ 1000000) :
    Calls Try.prog 27 #[v1, v2] w fun e w' => e = .returned (.bool true) ∧ ∃ q, w' = w.drewN q := by
  by_cases h0 : l.length = 0
  · obtain ⟨a1, c1, rfl⟩ := r1.form
    obtain ⟨a2, c2, rfl⟩ := r2.form
    rw [h0]
    clear r1 r2
    go_enter Try.func27, Try.ntmps27
    go_wp2
    go_loopw [5] (fun i wr => i = .int .i64 0 ∧ ∃ q, wr = w.drewN q) (fun _ _ => 0)
    case atStart => exact ⟨rfl, 0, rfl⟩
    case round =>
      obtain ⟨rfl, q, rfl⟩ := hrel
      go_wp2
      go_ret
      exact ⟨rfl, q, rfl⟩
  · obtain ⟨b1, c1, rfl, hc1⟩ := r1.cells (by omega)
    obtain ⟨b2, c2, rfl, hc2⟩ := r2.cells (by omega)
    clear r1 r2
    generalize hl : l.length = n at *
    go_enter Try.func27, Try.ntmps27
    go_wp2
    go_loopw [5] (fun i wr => ∃ k : Nat, k ≤ n ∧ i = .int .i64 k ∧ ∃ q, wr = w.drewN q) (fun i _ => n - (intOf i).toNat)
    case atStart => exact ⟨0, by omega, rfl, 0, rfl⟩
    case round =>
      obtain ⟨k, hk, rfl, q, rfl⟩ := hrel
      by_cases hlt : k < n
      · obtain ⟨x1, y1⟩ := hc1 k hlt
        obtain ⟨x2, y2⟩ := hc2 k hlt
        have hkL : (k : Int) < n := by omega
        clear hc1 hc2
        generalize (l.getD k (0, 0)).1 = p1 at *
        generalize (l.getD k (0, 0)).2 = p2 at *
        go_wp2
        go_quiet (fail)
        go_wp2
        go_roundw
        case rel => exact ⟨k + 1, by omega, by go_num, _, rfl⟩
        case measure => simp [intOf]; omega
      · clear hc1 hc2
        go_wp2
        go_ret
        exact ⟨rfl, q, rfl⟩
end Go.Proofs.Ytcgjfklglckjcaa
