/- The document's answers Load, Write and Store of layer 2. -/
import Derived.Test.YtalgidnmmghejaaRef
namespace Go.Proofs.Ytalgidnmmghejaa
open Go.RowKit Go.Maps
set_option linter.unusedVariables false
theorem sized_any (n : Int) (w : World) : Calls Try.prog 62 #[.int .i64 n] w fun e w' => e = .returned (.bool (widB n)) ∧ w' = w := by
  go_enter Try.func62, Try.ntmps62
  go_wp2
  all_goals (go_ret; exact ⟨ret_bool (by rw [Bool.eq_iff_iff]; simp [widB, *]; try omega), rfl⟩)
set_option maxHeartbeats 400000 in
theorem rload_no (w : World) (s x : Nat) (k : Int) (v : Value) (hs : s < 18446744073709551616) (hx : x < 18446744073709551616) (hno : (widB k && inB x k 2147483648 s) = false) :
    Calls Try.prog 73 #[.agg #[.int .u64 (s : Nat), v], .int .u64 (x : Nat), .int .i64 k] w fun e w' => e = .returned (.tuple #[.int .u64 0, .bool false]) ∧ Below w.heap.size w w' := by
  cases hw : widB k with
  | false =>
    have H : Hid (widB k = false) := hw
    clear hw hno
    go_enter Try.func73, Try.ntmps73
    go_wp2_with (first | (go_at_call 62; refine (sized_any k _).mono ?_; rintro e w' ⟨rfl, rfl⟩; rw [H.out]))
    go_ret2
    exact ⟨rfl, (Below.refl _ _).alloc (Nat.le_refl _) _⟩
  | true =>
    have hk : k = 1 ∨ k = 2 ∨ k = 4 ∨ k = 8 := by simpa [widB] using hw
    obtain ⟨L, rfl⟩ : ∃ L : Nat, k = L := ⟨k.toNat, by omega⟩
    have hL : L ≤ 8 := by omega
    rw [hw, Bool.true_and] at hno
    have H : Hid (_ ∧ _) := ⟨hw, hno⟩
    clear hw hno hk
    go_enter Try.func73, Try.ntmps73
    go_wp2_with (first | (go_at_call 62; refine (sized_any _ _).mono ?_; rintro e w' ⟨rfl, rfl⟩; rw [H.out.1]) | (go_at_call 92; refine (rread_out (fun _ => False) _ s x L _ hs hx (by omega) H.out.2).mono ?_; rintro e w2 ⟨rfl, hb2⟩) | (go_at_call 93; refine (rof_any (fun _ => 0) 0 0 _ (by omega) (by omega) (fun i hi => by omega) _ (.inl ⟨rfl, _, _, rfl⟩)).mono ?_; rintro e w3 ⟨rfl, rfl⟩))
    go_ret2
    exact ⟨rfl, ((Below.refl _ _).alloc (Nat.le_refl _) _).trans (hb2.mono (by simp))⟩
set_option maxHeartbeats 400000 in
theorem rload_yes (F : Nat → Prop) (w : World) (s x L n : Nat) (v : Value) (bs : Nat → Nat × Nat) (h : RefIn F w v n bs) (hle : ∀ a, rget bs n a ≤ 255) (hn : n ≤ 1000000) (hs : s ≤ 268435456) (hx : x < 18446744073709551616) (hw : widB L = true) (hin : inB x L 2147483648 s = true) :
    Calls Try.prog 73 #[.agg #[.int .u64 (s : Nat), v], .int .u64 (x : Nat), .int .i64 (L : Nat)] w fun e w' => e = .returned (.tuple #[.int .u64 (h256 (fun i => rget bs n (x + i)) L 0 : Nat), .bool true]) ∧ Below w.heap.size w w' := by
  have hk : (L : Int) = 1 ∨ (L : Int) = 2 ∨ (L : Int) = 4 ∨ (L : Int) = 8 := by simpa [widB] using hw
  have hL : L ≤ 8 := by omega
  have H : Hid (_ ∧ _) := ⟨hw, hin⟩
  clear hw hin hk
  go_enter Try.func73, Try.ntmps73
  go_wp2_with (first | (go_at_call 62; refine (sized_any _ _).mono ?_; rintro e w' ⟨rfl, rfl⟩; rw [H.out.1]) | (go_at_call 92; refine (rread_in F _ s x L n _ bs (by exact h.below ((Below.refl _ _).alloc (Nat.le_refl _) _)) hn hs hx (by omega) H.out.2).mono ?_; rintro e w2 ⟨g, rfl, hown2, hb2⟩) | (go_at_call 93; refine (rof_any (fun i => rget bs n (x + i)) L L _ (by omega) (by omega) (fun i hi => hle _) _ (reads_own hown2)).mono ?_; rintro e w3 ⟨rfl, rfl⟩))
  go_ret2
  exact ⟨rfl, ((Below.refl _ _).alloc (Nat.le_refl _) _).trans (hb2.mono (by simp))⟩
/-- a row of N bytes with their addresses that may be written -/
def PairsAt (w : World) (g N : Nat) (c : Nat → Nat × Nat) : Prop :=
  (∃ cur, w.heap[g]? = some (.cells cur 135 (0, 0))) ∧ ∀ i, i < N → w.cell? ⟨g, i * 2, none⟩ = some (.int .u64 ((c i).1 : Nat)) ∧ w.cell? ⟨g, i * 2 + 1, none⟩ = some (.int .u8 ((c i).2 : Nat))
theorem PairsAt.frozen {w : World} {g N : Nat} {c : Nat → Nat × Nat} (h : PairsAt w g N c) (o : Nat) : w.frozen? ⟨g, o, none⟩ = false := by
  obtain ⟨⟨cur, hc⟩, _⟩ := h
  simp [World.frozen?, hc]
theorem PairsAt.set {w : World} {g N : Nat} {c : Nat → Nat × Nat} (h : PairsAt w g N c) (k a b : Nat) (hk : k < N) : PairsAt ((w.setCell ⟨g, k * 2, none⟩ (.int .u64 (a : Nat))).setCell ⟨g, k * 2 + 1, none⟩ (.int .u8 (b : Nat))) g N (fun i => if i = k then (a, b) else c i) := by
  obtain ⟨⟨cur, hc⟩, hcell⟩ := h
  have hk1 := hcell k hk
  have hex : ∃ cur', ((w.setCell ⟨g, k * 2, none⟩ (.int .u64 (a : Nat))).setCell ⟨g, k * 2 + 1, none⟩ (.int .u8 (b : Nat))).heap[g]? = some (.cells cur' 135 (0, 0)) := by
    rw [setCell_eq_setRow w g (k * 2) cur 135 (0, 0) _ hc]
    have h2 := setRow_heap w g cur (cur.setIfInBounds (k * 2) (.int .u64 (a : Nat))) 135 _ hc
    rw [setCell_eq_setRow _ g (k * 2 + 1) _ 135 (0, 0) _ h2]
    exact ⟨_, setRow_heap _ g _ _ 135 _ h2⟩
  refine ⟨hex, fun i hi => ?_⟩
  · by_cases e : i = k
    · subst e
      simp only [if_true]
      refine ⟨?_, ?_⟩
      · rw [World.cell?_setCell_other _ _ _ _ (fun h => by simp at h)]
        exact World.cell?_setCell_same _ _ _ hk1.1
      · have h2 : (w.setCell ⟨g, i * 2, none⟩ (.int .u64 (a : Nat))).cell? ⟨g, i * 2 + 1, none⟩ = some (.int .u8 ((c i).2 : Nat)) := by
          rw [World.cell?_setCell_other _ _ _ _ (fun h => by simp at h)]
          exact hk1.2
        exact World.cell?_setCell_same _ _ _ h2
    · simp only [e, if_false]
      obtain ⟨c1, c2⟩ := hcell i hi
      refine ⟨?_, ?_⟩
      · rw [World.cell?_setCell_other _ _ _ _ (fun h => by simp only [Addr.mk.injEq] at h; omega), World.cell?_setCell_other _ _ _ _ (fun h => by simp only [Addr.mk.injEq] at h; omega)]
        exact c1
      · rw [World.cell?_setCell_other _ _ _ _ (fun h => by simp only [Addr.mk.injEq] at h; omega), World.cell?_setCell_other _ _ _ _ (fun h => by simp only [Addr.mk.injEq] at h; omega)]
        exact c2
theorem PairsAt.congr {w : World} {g N : Nat} {c c' : Nat → Nat × Nat} (h : PairsAt w g N c) (e : ∀ i, i < N → c i = c' i) : PairsAt w g N c' :=
  ⟨h.1, fun i hi => by rw [← e i hi]; exact h.2 i hi⟩
theorem Try.info135 : (Try.prog.info? 135).map (fun i => (i.zero, i.size, i.bytes)) = some (some (.agg #[.int .u64 0, .int .u8 0]), 2, 16) := by kernel_rfl
theorem made_pairs (N j : Nat) (hj : j < N * 2) : (madeCells #[Value.int .u64 0, Value.int .u8 0] (N * 2)).toList[j]? = some (if j % 2 = 0 then .int .u64 0 else .int .u8 0) := by
  simp only [madeCells, Array.getElem?_toList, Array.getElem?_map, Array.getElem?_range, hj, if_true, Option.map_some]
  rcases Nat.mod_two_eq_zero_or_one j with h | h
  · simp [h]
  · simp [h]
theorem pairs_made {w : World} {base g N : Nat} (h : w.ownsRow base 135 2 (.slice (some ⟨g, 0, none⟩) N N) N (madeCells #[.int .u64 0, .int .u8 0] (N * 2)).toList) : PairsAt w g N (fun _ => (0, 0)) := by
  refine ⟨?_, fun i hi => ?_⟩
  · rcases h.2 with ⟨h1, _⟩ | ⟨g', cap, cur, hv, _, hg, _⟩
    · cases h1
    · cases hv; exact ⟨cur, hg⟩
  · have hc := h.cells (g := g) rfl
    have e1 := hc (i * 2) _ (made_pairs N (i * 2) (by omega))
    have e2 := hc (i * 2 + 1) _ (made_pairs N (i * 2 + 1) (by omega))
    rw [addr_add, Nat.zero_add, if_pos (by omega)] at e1
    rw [addr_add, Nat.zero_add, if_neg (by omega)] at e2
    exact ⟨e1, e2⟩
theorem boxes {w w1 : World} {o1 o2 : Obj} (hb : Below ((w.alloc o1).alloc o2).heap.size ((w.alloc o1).alloc o2) w1) :
    w1.heap[w.heap.size]? = some o1 ∧ w1.heap[w.heap.size + 1]? = some o2 ∧ Below w.heap.size w w1 ∧ w.heap.size + 2 ≤ w1.heap.size := by
  have e1 : (w.alloc o1).heap.size = w.heap.size + 1 := by simp
  have e2 : ((w.alloc o1).alloc o2).heap.size = w.heap.size + 2 := by simp
  have hs := hb.size
  rw [e2] at hs
  refine ⟨?_, ?_, (((Below.refl _ _).alloc (Nat.le_refl _) _).alloc (by omega) _).trans (hb.mono (by omega)), hs⟩
  · rw [hb.block _ (by omega), (World.grownBy_alloc (w.alloc o1) o2 none).block _ (by omega) (by simp)]
    exact heap_alloc_new w o1
  · rw [hb.block _ (by omega), ← e1]
    exact heap_alloc_new (w.alloc o1) o2
theorem box_facts {w : World} {b : Nat} {x y : Value} {t : TypeId} (h : w.heap[b]? = some (.cells #[x, y] t (0, 0))) :
    w.cell? ⟨b, 0, none⟩ = some x ∧ w.cell? ⟨b, 1, none⟩ = some y ∧ w.frozen? ⟨b, 0, none⟩ = false ∧ w.frozen? ⟨b, 1, none⟩ = false := by
  refine ⟨?_, ?_, ?_, ?_⟩
  · simp only [World.cell?, h]; rfl
  · simp only [World.cell?, h]; rfl
  · simp [World.frozen?, h]
  · simp [World.frozen?, h]
set_option maxHeartbeats 400000 in
theorem rwrite_out (w : World) (s x L : Nat) (av : Option Addr) (n cv : Nat) (a : Option Addr) (c : Nat) (hs : s < 18446744073709551616) (hx : x < 18446744073709551616) (hL : L < 9223372036854775808) (hin : inB x L 2147483648 s = false) :
    Calls Try.prog 63 #[.agg #[.int .u64 (s : Nat), .slice av n cv], .int .u64 (x : Nat), .slice a L c] w fun e w' => e = .returned (.tuple #[.agg #[.int .u64 (s : Nat), .slice av n cv], .bool false]) ∧ Below w.heap.size w w' := by
  have H : Hid (inB x L 2147483648 s = false) := hin
  clear hin
  go_enter Try.func63, Try.ntmps63
  go_wp2_with (first | (go_at_call 88; refine (rhas_any s x L _ hs hx (by omega) _).mono ?_; rintro e w1 ⟨rfl, hb1⟩; rw [H.out]; have hbx := boxes hb1; obtain ⟨a0, a1, a2, a3⟩ := box_facts hbx.1; obtain ⟨d0, d1, d2, d3⟩ := box_facts hbx.2.1; have X : Hid (_ ∧ _) := ⟨hbx.2.2.1, hbx.2.2.2⟩; clear hbx hb1))
  refine bodyPost_ret (v := .tuple #[.agg #[.int .u64 (s : Nat), .slice av n cv], .bool false]) (by simp [results, Try.results63, go_sem, d0, d1]) rfl ⟨rfl, ?_⟩
  exact (X.out.1.setCell (p := ⟨w.heap.size + 1, 0, none⟩) (by simp) _).setCell (p := ⟨w.heap.size + 1, 1, none⟩) (by simp) _
end Go.Proofs.Ytalgidnmmghejaa
