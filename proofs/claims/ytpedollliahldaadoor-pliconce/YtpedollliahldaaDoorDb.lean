/- The document's calls First, Word, marks and May. -/
import Derived.Test.YtpedollliahldaaDoorDa
namespace Go.Proofs.YtpedollliahldaaDoor
open Go.RowKit
set_option linter.unusedVariables false
set_option linter.unusedSimpArgs false
set_option maxRecDepth 100000
theorem below_drewN' {B : Nat} {W w : World} (h : Below B W w) (k : Nat) : Below B W (w.drewN k) := by
  induction k with
  | zero => exact h
  | succ k ih => exact Below.drew ih
set_option maxHeartbeats 4000000 in
theorem dfirst_any (S : St) (c : Nat) (hc : c < 2) (w : World) : Calls Tryd.prog 38 #[.agg (docC S), .int .i64 (c : Int)] w fun e w' => e = .returned (.int .i64 (firstN S c : Nat)) ∧ Below w.heap.size w w' := by
  have hci : (c : Int) < 2 := by omega
  have HC : Hid (c < 2) := hc
  clear hc
  go_enter Tryd.func38, Tryd.ntmps38
  go_upto_region 0 with fail
  refine wp_region_list ?_
  refine wpList_box_agg 34 (docC S) _ rfl rfl rfl ?_
  have X0 : Hid (Box 34 (w.alloc (.cells (docC S) 34)) w.heap.size (docC S) ∧ Below w.heap.size w (w.alloc (.cells (docC S) 34))) := ⟨Box.new 34 w _, (Below.refl _ _).alloc (Nat.le_refl _) _⟩
  generalize w.alloc (.cells (docC S) 34) = W at *
  go_wp2_with fail
  go_loopw [5, 6] (fun bst i wr => ∃ k n : Nat, k < 32 ∧ i = .int .i64 k ∧ bst = .int .i64 n ∧ IsFst (letB S c) S.prio (k + 1) 32 n ∧ Box 34 wr w.heap.size (docC S) ∧ Below w.heap.size w wr) (fun _ i _ => (intOf i).toNat)
  case atStart => exact ⟨31, 0, by omega, rfl, rfl, .inl ⟨rfl, fun i h1 h2 => by omega⟩, X0.out⟩
  case round =>
    obtain ⟨k, n, hk, rfl, rfl, hF, hX⟩ := hrel
    have X1 : Hid (Box 34 wr w.heap.size (docC S) ∧ Below w.heap.size w wr) := hX
    have HF : Hid (IsFst (letB S c) S.prio (k + 1) 32 n) := hF
    clear hX X0 hF
    by_cases h0 : k = 0
    · subst h0
      have hn : n = firstN S c := isFst_one HF.out (firstN_is S c)
      subst hn
      clear hk
      go_wp2_with fail
      go_ret
      exact ⟨rfl, X1.out.2⟩
    · have HB : Hid (1 ≤ k ∧ k < 32) := by show 1 ≤ k ∧ k < 32; omega
      have hn : n < 32 := by rcases HF.out with h | h <;> omega
      have f2 : wr.cell? ⟨w.heap.size, 64 + k, none⟩ = some (.bool (S.waits.testBit k)) := X1.out.1.dwaits k hk
      have f4 : wr.cell? ⟨w.heap.size, 128 + c * 32 + k, none⟩ = some (.bool ((S.lets c).testBit k)) := X1.out.1.dlets c k HC.out hk
      have f0 : wr.cell? ⟨w.heap.size, k, none⟩ = some (.int .i64 (S.prio k : Nat)) := X1.out.1.dprio k hk
      have fn : wr.cell? ⟨w.heap.size, n, none⟩ = some (.int .i64 (S.prio n : Nat)) := X1.out.1.dprio n hn
      have hk1 : (k : Int) < 32 := by omega
      have hk2 : (1 : Int) ≤ (k : Int) := by omega
      have hn1 : (n : Int) < 32 := by omega
      have hlet : letB S c k = (S.waits.testBit k && (S.lets c).testBit k) := by simp [letB, show 1 ≤ k from by omega]
      cases e1 : S.waits.testBit k
      · rw [e1] at f2 hlet
        have HN : Hid (IsFst (letB S c) S.prio k 32 n) := isFst_stay _ _ _ _ HF.out (.inl (by rw [hlet]; rfl))
        clear hlet e1 f4 f0 fn
        clear h0 hk hn HF
        go_wp2_with fail
        go_quiet (fail)
        go_wp2_with fail
        go_roundw
        case rel => exact ⟨k - 1, n, by have := HB.out; omega, by rw [show ((k - 1 : Nat) : Int) = (k : Int) - 1 from by have := HB.out; omega], rfl, by rw [show k - 1 + 1 = k from by have := HB.out; omega]; exact HN.out, X1.out.1.step (below_drewN' (Below.refl _ _) _), below_drewN' X1.out.2 _⟩
        case measure => simp [intOf]; have := HB.out; omega
      rw [e1] at f2 hlet
      clear e1
      cases e2 : (S.lets c).testBit k
      · rw [e2] at f4 hlet
        have HN : Hid (IsFst (letB S c) S.prio k 32 n) := isFst_stay _ _ _ _ HF.out (.inl (by rw [hlet]; rfl))
        clear hlet e2 f0 fn
        clear h0 hk hn HF
        go_wp2_with fail
        go_quiet (fail)
        go_wp2_with fail
        go_roundw
        case rel => exact ⟨k - 1, n, by have := HB.out; omega, by rw [show ((k - 1 : Nat) : Int) = (k : Int) - 1 from by have := HB.out; omega], rfl, by rw [show k - 1 + 1 = k from by have := HB.out; omega]; exact HN.out, X1.out.1.step (below_drewN' (Below.refl _ _) _), below_drewN' X1.out.2 _⟩
        case measure => simp [intOf]; have := HB.out; omega
      rw [e2] at f4 hlet
      clear e2
      by_cases e3 : S.prio k = 0
      · have HN : Hid (IsFst (letB S c) S.prio k 32 n) := isFst_stay _ _ _ _ HF.out (.inr (.inl e3))
        rw [e3] at f0
        clear hlet e3 fn
        clear h0 hk hn HF
        go_wp2_with fail
        go_quiet (fail)
        go_wp2_with fail
        go_roundw
        case rel => exact ⟨k - 1, n, by have := HB.out; omega, by rw [show ((k - 1 : Nat) : Int) = (k : Int) - 1 from by have := HB.out; omega], rfl, by rw [show k - 1 + 1 = k from by have := HB.out; omega]; exact HN.out, X1.out.1.step (below_drewN' (Below.refl _ _) _), below_drewN' X1.out.2 _⟩
        case measure => simp [intOf]; have := HB.out; omega
      have hp : (0 : Int) < (S.prio k : Nat) := by omega
      have hp2 : decide (0 < S.prio k) = true := by simp; omega
      by_cases e4 : n = 0
      · have HN : Hid (IsFst (letB S c) S.prio k 32 k) := isFst_down _ _ _ _ HF.out (by omega) hk (by rw [hlet]; rfl) (by omega) (.inl e4)
        subst e4
        clear hlet e3 fn
        clear h0 hk hn HF
        go_wp2_with fail
        go_quiet (fail)
        go_wp2_with fail
        go_roundw
        case rel => exact ⟨k - 1, k, by have := HB.out; omega, by rw [show ((k - 1 : Nat) : Int) = (k : Int) - 1 from by have := HB.out; omega], rfl, by rw [show k - 1 + 1 = k from by have := HB.out; omega]; exact HN.out, X1.out.1.step (below_drewN' (Below.refl _ _) _), below_drewN' X1.out.2 _⟩
        case measure => simp [intOf]; have := HB.out; omega
      have hn0 : ((n : Int) == 0) = false := by simp; omega
      by_cases e5 : S.prio n ≤ S.prio k
      · have HN : Hid (IsFst (letB S c) S.prio k 32 k) := isFst_down _ _ _ _ HF.out (by omega) hk (by rw [hlet]; rfl) (by omega) (.inr e5)
        have hge : (S.prio n : Int) ≤ (S.prio k : Nat) := by omega
        have hge2 : decide (S.prio n ≤ S.prio k) = true := by simp; omega
        clear hlet e3 e4 e5
        clear h0 hk hn HF
        go_wp2_with fail
        go_quiet (fail)
        go_wp2_with fail
        go_roundw
        case rel => exact ⟨k - 1, k, by have := HB.out; omega, by rw [show ((k - 1 : Nat) : Int) = (k : Int) - 1 from by have := HB.out; omega], rfl, by rw [show k - 1 + 1 = k from by have := HB.out; omega]; exact HN.out, X1.out.1.step (below_drewN' (Below.refl _ _) _), below_drewN' X1.out.2 _⟩
        case measure => simp [intOf]; have := HB.out; omega
      · have HN : Hid (IsFst (letB S c) S.prio k 32 n) := isFst_stay _ _ _ _ HF.out (.inr (.inr ⟨e4, by omega⟩))
        have hge : ¬ (S.prio n : Int) ≤ (S.prio k : Nat) := by omega
        have hge2 : decide (S.prio n ≤ S.prio k) = false := by simp; omega
        clear hlet e3 e4 e5
        clear h0 hk hn HF
        go_wp2_with fail
        go_quiet (fail)
        go_wp2_with fail
        go_roundw
        case rel => exact ⟨k - 1, n, by have := HB.out; omega, by rw [show ((k - 1 : Nat) : Int) = (k : Int) - 1 from by have := HB.out; omega], rfl, by rw [show k - 1 + 1 = k from by have := HB.out; omega]; exact HN.out, X1.out.1.step (below_drewN' (Below.refl _ _) _), below_drewN' X1.out.2 _⟩
        case measure => simp [intOf]; have := HB.out; omega
end Go.Proofs.YtpedollliahldaaDoor
