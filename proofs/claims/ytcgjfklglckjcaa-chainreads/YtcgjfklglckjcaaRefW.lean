/- The document's answers Load, Write and Store of layer 2. -/
import Derived.Test.YtcgjfklglckjcaaRef
namespace Go.Proofs.Ytcgjfklglckjcaa
open Go.RowKit Go.Maps
set_option linter.unusedVariables false
/-- a row of N bytes with their addresses that may be written -/
def PairsAt (w : World) (g N : Nat) (c : Nat → Nat × Nat) : Prop :=
  (∃ cur, w.heap[g]? = some (.cells cur 125 (0, 0))) ∧ ∀ i, i < N → w.cell? ⟨g, i * 2, none⟩ = some (.int .u64 ((c i).1 : Nat)) ∧ w.cell? ⟨g, i * 2 + 1, none⟩ = some (.int .u8 ((c i).2 : Nat))
theorem PairsAt.frozen {w : World} {g N : Nat} {c : Nat → Nat × Nat} (h : PairsAt w g N c) (o : Nat) : w.frozen? ⟨g, o, none⟩ = false := by
  obtain ⟨⟨cur, hc⟩, _⟩ := h
  simp [World.frozen?, hc]
theorem PairsAt.set {w : World} {g N : Nat} {c : Nat → Nat × Nat} (h : PairsAt w g N c) (k a b : Nat) (hk : k < N) : PairsAt ((w.setCell ⟨g, k * 2, none⟩ (.int .u64 (a : Nat))).setCell ⟨g, k * 2 + 1, none⟩ (.int .u8 (b : Nat))) g N (fun i => if i = k then (a, b) else c i) := by
  obtain ⟨⟨cur, hc⟩, hcell⟩ := h
  have hk1 := hcell k hk
  have hex : ∃ cur', ((w.setCell ⟨g, k * 2, none⟩ (.int .u64 (a : Nat))).setCell ⟨g, k * 2 + 1, none⟩ (.int .u8 (b : Nat))).heap[g]? = some (.cells cur' 125 (0, 0)) := by
    rw [setCell_eq_setRow w g (k * 2) cur 125 (0, 0) _ hc]
    have h2 := setRow_heap w g cur (cur.setIfInBounds (k * 2) (.int .u64 (a : Nat))) 125 _ hc
    rw [setCell_eq_setRow _ g (k * 2 + 1) _ 125 (0, 0) _ h2]
    exact ⟨_, setRow_heap _ g _ _ 125 _ h2⟩
  refine ⟨hex, fun i hi => ?_⟩
  · by_cases e : i = k
    · subst e
      simp only [if_true]
      refine ⟨?_, ?_⟩
      · rw [World.cell?_setCell_other _ _ _ _ (fun h => by simp at h)]
        exact World.cell?_setCell_same _ _ _ hk1.1
      · have h2 : (w.setCell ⟨g, i * 2, none⟩ (.int .u64 (a : Nat))).cell? ⟨g, i * 2 + 1, none⟩ = some (.int .u8 ((c i).2 : Nat)) := by
          rw [World.cell?_setCell_other _ _ _ _ (fun h => by simp at h)]
          exact hk1.2
        exact World.cell?_setCell_same _ _ _ h2
    · simp only [e, if_false]
      obtain ⟨c1, c2⟩ := hcell i hi
      refine ⟨?_, ?_⟩
      · rw [World.cell?_setCell_other _ _ _ _ (fun h => by simp only [Addr.mk.injEq] at h; omega), World.cell?_setCell_other _ _ _ _ (fun h => by simp only [Addr.mk.injEq] at h; omega)]
        exact c1
      · rw [World.cell?_setCell_other _ _ _ _ (fun h => by simp only [Addr.mk.injEq] at h; omega), World.cell?_setCell_other _ _ _ _ (fun h => by simp only [Addr.mk.injEq] at h; omega)]
        exact c2
theorem PairsAt.congr {w : World} {g N : Nat} {c c' : Nat → Nat × Nat} (h : PairsAt w g N c) (e : ∀ i, i < N → c i = c' i) : PairsAt w g N c' :=
  ⟨h.1, fun i hi => by rw [← e i hi]; exact h.2 i hi⟩
theorem Try.info125 : (Try.prog.info? 125).map (fun i => (i.zero, i.size, i.bytes)) = some (some (.agg #[.int .u64 0, .int .u8 0]), 2, 16) := by kernel_rfl
theorem made_pairs (N j : Nat) (hj : j < N * 2) : (madeCells #[Value.int .u64 0, Value.int .u8 0] (N * 2)).toList[j]? = some (if j % 2 = 0 then .int .u64 0 else .int .u8 0) := by
  simp only [madeCells, Array.getElem?_toList, Array.getElem?_map, Array.getElem?_range, hj, if_true, Option.map_some]
  rcases Nat.mod_two_eq_zero_or_one j with h | h
  · simp [h]
  · simp [h]
theorem pairs_made {w : World} {base g N : Nat} (h : w.ownsRow base 125 2 (.slice (some ⟨g, 0, none⟩) N N) N (madeCells #[.int .u64 0, .int .u8 0] (N * 2)).toList) : PairsAt w g N (fun _ => (0, 0)) := by
  refine ⟨?_, fun i hi => ?_⟩
  · rcases h.2 with ⟨h1, _⟩ | ⟨g', cap, cur, hv, _, hg, _⟩
    · cases h1
    · cases hv; exact ⟨cur, hg⟩
  · have hc := h.cells (g := g) rfl
    have e1 := hc (i * 2) _ (made_pairs N (i * 2) (by omega))
    have e2 := hc (i * 2 + 1) _ (made_pairs N (i * 2 + 1) (by omega))
    rw [addr_add, Nat.zero_add, if_pos (by omega)] at e1
    rw [addr_add, Nat.zero_add, if_neg (by omega)] at e2
    exact ⟨e1, e2⟩
theorem boxes {w w1 : World} {o1 o2 : Obj} (hb : Below ((w.alloc o1).alloc o2).heap.size ((w.alloc o1).alloc o2) w1) :
    w1.heap[w.heap.size]? = some o1 ∧ w1.heap[w.heap.size + 1]? = some o2 ∧ Below w.heap.size w w1 ∧ w.heap.size + 2 ≤ w1.heap.size := by
  have e1 : (w.alloc o1).heap.size = w.heap.size + 1 := by simp
  have e2 : ((w.alloc o1).alloc o2).heap.size = w.heap.size + 2 := by simp
  have hs := hb.size
  rw [e2] at hs
  refine ⟨?_, ?_, (((Below.refl _ _).alloc (Nat.le_refl _) _).alloc (by omega) _).trans (hb.mono (by omega)), hs⟩
  · rw [hb.block _ (by omega), (World.grownBy_alloc (w.alloc o1) o2 none).block _ (by omega) (by simp)]
    exact heap_alloc_new w o1
  · rw [hb.block _ (by omega), ← e1]
    exact heap_alloc_new (w.alloc o1) o2
theorem box_facts {w : World} {b : Nat} {x y : Value} {t : TypeId} (h : w.heap[b]? = some (.cells #[x, y] t (0, 0))) :
    w.cell? ⟨b, 0, none⟩ = some x ∧ w.cell? ⟨b, 1, none⟩ = some y ∧ w.frozen? ⟨b, 0, none⟩ = false ∧ w.frozen? ⟨b, 1, none⟩ = false := by
  refine ⟨?_, ?_, ?_, ?_⟩
  · simp only [World.cell?, h]; rfl
  · simp only [World.cell?, h]; rfl
  · simp [World.frozen?, h]
  · simp [World.frozen?, h]
set_option maxHeartbeats 400000 in
theorem rwrite_out (w : World) (s x L : Nat) (av : Option Addr) (n cv : Nat) (a : Option Addr) (c : Nat) (hs : s < 18446744073709551616) (hx : x < 18446744073709551616) (hL : L < 9223372036854775808) (hin : inB x L 2147483648 s = false) :
    Calls Try.prog 33 #[.agg #[.int .u64 (s : Nat), .slice av n cv], .int .u64 (x : Nat), .slice a L c] w fun e w' => e = .returned (.tuple #[.agg #[.int .u64 (s : Nat), .slice av n cv], .bool false]) ∧ Below w.heap.size w w' := by
  have H : Hid (inB x L 2147483648 s = false) := hin
  clear hin
  go_enter Try.func33, Try.ntmps33
  go_wp2_with (first | (go_at_call 17; refine (rhas_any s x L _ hs hx (by omega) _).mono ?_; rintro e w1 ⟨rfl, hb1⟩; rw [H.out]; have hbx := boxes hb1; obtain ⟨a0, a1, a2, a3⟩ := box_facts hbx.1; obtain ⟨d0, d1, d2, d3⟩ := box_facts hbx.2.1; have X : Hid (_ ∧ _) := ⟨hbx.2.2.1, hbx.2.2.2⟩; clear hbx hb1))
  refine bodyPost_ret (v := .tuple #[.agg #[.int .u64 (s : Nat), .slice av n cv], .bool false]) (by simp [results, Try.results33, go_sem, d0, d1]) rfl ⟨rfl, ?_⟩
  exact (X.out.1.setCell (p := ⟨w.heap.size + 1, 0, none⟩) (by simp) _).setCell (p := ⟨w.heap.size + 1, 1, none⟩) (by simp) _
end Go.Proofs.Ytcgjfklglckjcaa
