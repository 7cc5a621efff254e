/- Chains alike. -/
import Derived.Test.YtcgjfklglckjcaaDc
import Derived.Laws.StructEq
namespace Go.Proofs.Ytcgjfklglckjcaa
open Go.RowKit Go.Maps
set_option linter.unusedVariables false
set_option linter.unusedSimpArgs false
set_option maxRecDepth 100000
set_option maxHeartbeats 1000000 in
theorem same_zero (a1 a2 : Option Addr) (c1 c2 ta tl : Nat) (w : World) : Calls Try.prog 40 #[.agg #[.slice a1 0 c1, .int .u64 (ta : Int), .int .u64 (tl : Int)], .agg #[.slice a2 0 c2, .int .u64 (ta : Int), .int .u64 (tl : Int)]] w fun e w' => e = .returned (.bool true) ∧ Below w.heap.size w w' := by
  have h2 := two_in w (.cells #[.slice a1 0 c1, .int .u64 (ta : Int), .int .u64 (tl : Int)] 44) (.cells #[.slice a2 0 c2, .int .u64 (ta : Int), .int .u64 (tl : Int)] 44)
  have hb : Below w.heap.size w ((w.alloc (.cells #[.slice a1 0 c1, .int .u64 (ta : Int), .int .u64 (tl : Int)] 44)).alloc (.cells #[.slice a2 0 c2, .int .u64 (ta : Int), .int .u64 (tl : Int)] 44)) := ((Below.refl _ _).alloc (Nat.le_refl _) _).alloc (by simp) _
  have HB : Hid (Below w.heap.size w ((w.alloc (.cells #[.slice a1 0 c1, .int .u64 (ta : Int), .int .u64 (tl : Int)] 44)).alloc (.cells #[.slice a2 0 c2, .int .u64 (ta : Int), .int .u64 (tl : Int)] 44))) := hb
  have HX : Hid (_ ∧ _) := h2
  clear hb
  go_enter Try.func40, Try.ntmps40
  go_upto_region 1 with fail
  obtain ⟨p0, p1, p2⟩ := box3_facts h2.1
  obtain ⟨q0, q1, q2⟩ := box3_facts h2.2
  clear h2 HX
  generalize (w.alloc (.cells #[.slice a1 0 c1, .int .u64 (ta : Int), .int .u64 (tl : Int)] 44)).alloc (.cells #[.slice a2 0 c2, .int .u64 (ta : Int), .int .u64 (tl : Int)] 44) = v0 at *
  go_wp2_with fail
  go_loopw [5] (fun i wr => i = .int .i64 0 ∧ wr = v0) (fun _ _ => 0)
  case atStart => exact ⟨rfl, rfl⟩
  case round =>
    obtain ⟨rfl, hw⟩ := hrel
    rw [hw]
    clear hw
    go_wp2_with fail
    go_ret
    exact ⟨rfl, HB.out⟩
set_option maxHeartbeats 2000000 in
theorem same_more (g1 g2 c1 c2 ta tl L : Nat) (l : List Seg) (hl : l.length = L) (hL : L ≤ 1000) (w : World) (hg1 : g1 < w.heap.size) (hg2 : g2 < w.heap.size)
    (k1 : ∀ i (hi : i < l.length), w.cell? ⟨g1, i * 3, none⟩ = some (.int .u64 ((l[i]).a : Nat)) ∧ w.cell? ⟨g1, i * 3 + 1, none⟩ = some (.int .u64 ((l[i]).l : Nat)) ∧ w.cell? ⟨g1, i * 3 + 2, none⟩ = some (.bool (l[i]).wr))
    (k2 : ∀ i (hi : i < l.length), w.cell? ⟨g2, i * 3, none⟩ = some (.int .u64 ((l[i]).a : Nat)) ∧ w.cell? ⟨g2, i * 3 + 1, none⟩ = some (.int .u64 ((l[i]).l : Nat)) ∧ w.cell? ⟨g2, i * 3 + 2, none⟩ = some (.bool (l[i]).wr)) :
    Calls Try.prog 40 #[.agg #[.slice (some ⟨g1, 0, none⟩) L c1, .int .u64 (ta : Int), .int .u64 (tl : Int)], .agg #[.slice (some ⟨g2, 0, none⟩) L c2, .int .u64 (ta : Int), .int .u64 (tl : Int)]] w fun e w' => e = .returned (.bool true) ∧ Below w.heap.size w w' := by
  have h2 := two_in w (.cells #[.slice (some ⟨g1, 0, none⟩) L c1, .int .u64 (ta : Int), .int .u64 (tl : Int)] 44) (.cells #[.slice (some ⟨g2, 0, none⟩) L c2, .int .u64 (ta : Int), .int .u64 (tl : Int)] 44)
  have hb : Below w.heap.size w ((w.alloc (.cells #[.slice (some ⟨g1, 0, none⟩) L c1, .int .u64 (ta : Int), .int .u64 (tl : Int)] 44)).alloc (.cells #[.slice (some ⟨g2, 0, none⟩) L c2, .int .u64 (ta : Int), .int .u64 (tl : Int)] 44)) := ((Below.refl _ _).alloc (Nat.le_refl _) _).alloc (by simp) _
  have HB : Hid (Below w.heap.size w ((w.alloc (.cells #[.slice (some ⟨g1, 0, none⟩) L c1, .int .u64 (ta : Int), .int .u64 (tl : Int)] 44)).alloc (.cells #[.slice (some ⟨g2, 0, none⟩) L c2, .int .u64 (ta : Int), .int .u64 (tl : Int)] 44))) := hb
  have HK : Hid (∀ i (hi : i < l.length) V, Below w.heap.size w V → (V.cell? ⟨g1, i * 3, none⟩ = some (.int .u64 ((l[i]).a : Nat)) ∧ V.cell? ⟨g1, i * 3 + 1, none⟩ = some (.int .u64 ((l[i]).l : Nat)) ∧ V.cell? ⟨g1, i * 3 + 2, none⟩ = some (.bool (l[i]).wr)) ∧ (V.cell? ⟨g2, i * 3, none⟩ = some (.int .u64 ((l[i]).a : Nat)) ∧ V.cell? ⟨g2, i * 3 + 1, none⟩ = some (.int .u64 ((l[i]).l : Nat)) ∧ V.cell? ⟨g2, i * 3 + 2, none⟩ = some (.bool (l[i]).wr))) := fun i hi V hV => ⟨⟨(hV.cell (p := ⟨g1, i * 3, none⟩) hg1).trans (k1 i hi).1, (hV.cell (p := ⟨g1, i * 3 + 1, none⟩) hg1).trans (k1 i hi).2.1, (hV.cell (p := ⟨g1, i * 3 + 2, none⟩) hg1).trans (k1 i hi).2.2⟩, (hV.cell (p := ⟨g2, i * 3, none⟩) hg2).trans (k2 i hi).1, (hV.cell (p := ⟨g2, i * 3 + 1, none⟩) hg2).trans (k2 i hi).2.1, (hV.cell (p := ⟨g2, i * 3 + 2, none⟩) hg2).trans (k2 i hi).2.2⟩
  have HL : Hid (l.length = L) := hl
  clear hb k1 k2 hg1 hg2 hl
  go_enter Try.func40, Try.ntmps40
  go_upto_region 1 with fail
  obtain ⟨p0, p1, p2⟩ := box3_facts h2.1
  obtain ⟨q0, q1, q2⟩ := box3_facts h2.2
  clear h2
  generalize (w.alloc (.cells #[.slice (some ⟨g1, 0, none⟩) L c1, .int .u64 (ta : Int), .int .u64 (tl : Int)] 44)).alloc (.cells #[.slice (some ⟨g2, 0, none⟩) L c2, .int .u64 (ta : Int), .int .u64 (tl : Int)] 44) = v0 at *
  go_wp2_with fail
  go_loopw [5] (fun i wr => ∃ k : Nat, k ≤ L ∧ i = .int .i64 k ∧ ∃ q, wr = v0.drewN q) (fun i _ => L - (intOf i).toNat)
  case atStart => exact ⟨0, by omega, rfl, 0, rfl⟩
  case round =>
    obtain ⟨k, hk, rfl, q, rfl⟩ := hrel
    by_cases hlt : k < L
    · have hkl : k < l.length := by have := HL.out; omega
      obtain ⟨⟨x1, y1, z1⟩, ⟨x2, y2, z2⟩⟩ := HK.out k hkl v0 HB.out
      have hkL : (k : Int) < L := by omega
      generalize (l[k]).a = sa at *
      generalize (l[k]).l = sl at *
      generalize (l[k]).wr = sw at *
      go_wp2
      go_quiet (fail)
      go_wp2
      go_roundw
      case rel => exact ⟨k + 1, by omega, by go_num, _, rfl⟩
      case measure => simp [intOf]; omega
    · have hkL : ¬ (k : Int) < L := by omega
      go_wp2
      go_ret
      exact ⟨rfl, below_drewN HB.out _⟩
theorem same_chains {w : World} {v1 v2 : Value} {l : List Seg} (h1 : SegIn 0 w v1 l) (h2 : SegIn 0 w v2 l) (hl : l.length ≤ 1000) (ta tl : Nat) : Calls Try.prog 40 #[.agg #[v1, .int .u64 (ta : Int), .int .u64 (tl : Int)], .agg #[v2, .int .u64 (ta : Int), .int .u64 (tl : Int)]] w fun e w' => e = .returned (.bool true) ∧ Below w.heap.size w w' := by
  by_cases h0 : l.length = 0
  · obtain ⟨a1, c1, rfl⟩ := h1.form
    obtain ⟨a2, c2, rfl⟩ := h2.form
    rw [h0]
    exact same_zero a1 a2 c1 c2 ta tl w
  · obtain ⟨g1, c1, rfl, k1⟩ := h1.cells (by omega)
    obtain ⟨g2, c2, rfl, k2⟩ := h2.cells (by omega)
    exact same_more g1 g2 c1 c2 ta tl l.length l rfl hl w (h1.lt g1 rfl).2 (h2.lt g2 rfl).2 k1 k2
/-- the statements' is -/
theorem is_any {w : World} {a1 a2 : Option Addr} {L c1 c2 : Nat} {l : List Seg} (h1 : SegIn 0 w (.slice a1 L c1) l) (h2 : SegIn 0 w (.slice a2 L c2) l) (hl : l.length ≤ 1000) (ta tl : Nat) : Calls Try.prog 14 #[.agg #[.slice a1 L c1, .int .u64 (ta : Int), .int .u64 (tl : Int)], .agg #[.slice a2 L c2, .int .u64 (ta : Int), .int .u64 (tl : Int)]] w fun e w' => e = .returned (.bool true) ∧ Below w.heap.size w w' := by
  have X0 := two_in w (.cells #[.slice a1 L c1, .int .u64 (ta : Int), .int .u64 (tl : Int)] 40) (.cells #[.slice a2 L c2, .int .u64 (ta : Int), .int .u64 (tl : Int)] 44)
  have hb : Below w.heap.size w ((w.alloc (.cells #[.slice a1 L c1, .int .u64 (ta : Int), .int .u64 (tl : Int)] 40)).alloc (.cells #[.slice a2 L c2, .int .u64 (ta : Int), .int .u64 (tl : Int)] 44)) := ((Below.refl _ _).alloc (Nat.le_refl _) _).alloc (by simp) _
  have HS : Hid (Calls Try.prog 40 #[.agg #[.slice a1 L c1, .int .u64 (ta : Int), .int .u64 (tl : Int)], .agg #[.slice a2 L c2, .int .u64 (ta : Int), .int .u64 (tl : Int)]] ((w.alloc (.cells #[.slice a1 L c1, .int .u64 (ta : Int), .int .u64 (tl : Int)] 40)).alloc (.cells #[.slice a2 L c2, .int .u64 (ta : Int), .int .u64 (tl : Int)] 44)) fun e w' => e = .returned (.bool true) ∧ Below ((w.alloc (.cells #[.slice a1 L c1, .int .u64 (ta : Int), .int .u64 (tl : Int)] 40)).alloc (.cells #[.slice a2 L c2, .int .u64 (ta : Int), .int .u64 (tl : Int)] 44)).heap.size ((w.alloc (.cells #[.slice a1 L c1, .int .u64 (ta : Int), .int .u64 (tl : Int)] 40)).alloc (.cells #[.slice a2 L c2, .int .u64 (ta : Int), .int .u64 (tl : Int)] 44)) w') := same_chains (h1.kept (fun g hg => hb.block g (h1.lt g hg).2)) (h2.kept (fun g hg => hb.block g (h2.lt g hg).2)) hl ta tl
  have HB : Hid (Below w.heap.size w ((w.alloc (.cells #[.slice a1 L c1, .int .u64 (ta : Int), .int .u64 (tl : Int)] 40)).alloc (.cells #[.slice a2 L c2, .int .u64 (ta : Int), .int .u64 (tl : Int)] 44))) := hb
  clear h1 h2 hb
  go_enter Try.func14, Try.ntmps14
  go_upto_region 1 with fail
  obtain ⟨p0, p1, p2⟩ := box3_facts X0.1
  obtain ⟨q0, q1, q2⟩ := box3_facts X0.2
  clear X0
  generalize (w.alloc (.cells #[.slice a1 L c1, .int .u64 (ta : Int), .int .u64 (tl : Int)] 40)).alloc (.cells #[.slice a2 L c2, .int .u64 (ta : Int), .int .u64 (tl : Int)] 44) = v0 at *
  go_wp2_with (go_at_call 40; refine (HS.out).mono ?_; rintro e w2 ⟨rfl, hb⟩)
  go_ret
  exact ⟨rfl, below_to HB.out hb⟩
end Go.Proofs.Ytcgjfklglckjcaa
