/- Put and Take. -/
import Derived.Test.YtjmgdhnjldimgaaPa
namespace Go.Proofs.Ytjmgdhnjldimgaa
open Go.RowKit
set_option linter.unusedVariables false
set_option linter.unusedSimpArgs false
set_option maxRecDepth 100000
/-- more is put behind what waits: the row's own cells stay -/
theorem wp_append_fifo {w : World} {o : Oper} {a : Act} {KK : Act → World → Prop} {Q : Exit → Act → World → Prop} {v x : Value} {fb g d : Nat} {l D : List Nat} {c : Array Value} (s y : Operand) (ho : o.op = .call { callee := .builtin .append, args := #[s, y], argTypes := #[25, 25] }) (hs : a.eval s = v) (hy : a.eval y = x) (hx : Box 53 w fb c) (h : WA w v g l) (hr : RL w x d D) (hL : l.length + D.length ≤ 1000000)
    (hK : ∀ v' w' g', Hid (WA w' v' g' (l ++ D) ∧ Box 53 w' fb c ∧ Upon g w w' ∧ (g' = g ∨ (w.heap.size ≤ g' ∧ g' < w'.heap.size))) → KK (a.put o.dst v') w') : o.wp Try.prog a w KK Q := by
  rcases h with ⟨rfl, rfl⟩ | ⟨cap, cur, hv, hh, h4⟩
  · refine wp_append_wa (g := w.heap.size) (l := []) s y ho hs hy (WA.nil w _) hr hL ?_
    intro v' w' g' h1 h2 h3
    have hb := h2.below (Nat.le_refl _) (Nat.le_refl _)
    rcases h1 with ⟨h0, rfl⟩ | ⟨cap, cur, hv, hh, h4⟩
    · exact hK _ w' g ⟨by rw [h0]; exact WA.nil w' g, hx.step hb, Upon.of_below hb, .inl rfl⟩
    · exact hK _ w' g' ⟨.inr ⟨cap, cur, hv, hh, h4⟩, hx.step hb, Upon.of_below hb, .inr ⟨by omega, (Array.getElem?_eq_some_iff.1 hh).1⟩⟩
  · have hne : fb ≠ g := by
      rintro rfl
      unfold Box at hx
      rw [hh] at hx
      simp at hx
    refine wp_append_wa (g := g) (l := l) s y ho hs hy (.inr ⟨cap, cur, hv, hh, h4⟩) hr hL ?_
    intro v' w' g' h1 h2 h3
    refine hK v' w' g' ⟨h1, h2.box hx hne, h2, ?_⟩
    rcases h3 with h3 | ⟨h3, h5, _⟩
    · exact .inl h3
    · exact .inr ⟨h3, h5⟩
theorem Two.of_upon2 {a b : Nat} {w w' : World} (h : Upon b w w') : Two a b w w' := ⟨h.1, fun k hk _ hb => h.2 k hk hb⟩
theorem room_cast {r n : Nat} (h1 : n ≤ r) (h2 : r ≤ 4096) : IntKind.i64.wrap ((r : Int) - (n : Int)) = ((r - n : Nat) : Int) := by
  simp [IntKind.wrap, IntKind.signed, IntKind.bits, Int.bmod]; omega
set_option maxHeartbeats 4000000 in
theorem put_any {w : World} {fb g d : Nat} {K : Fi} (h : FifoAt w fb g K) (x : Value) (D : List Nat) (hr : RL w x d D) (hD : ∀ y ∈ D, y ≤ 255) (hL : D.length ≤ 100000) :
    Calls Try.prog 12 #[.pointer (some ⟨fb, 0, none⟩), x] w fun e w' => ∃ g', e = .returned (.int .i64 (putN K D : Nat)) ∧ FifoAt w' fb g' (putK K D) ∧ Two fb g w w' ∧ (g' = g ∨ w.heap.size ≤ g') := by
  obtain ⟨v, hx, ha, hg, hk⟩ := h
  obtain ⟨ax, cx, hv⟩ := hr.form
  subst hv
  obtain ⟨av, cv, hv⟩ := ha.reads.form
  subst hv
  have hk2 := putK_ok hk D hD
  have hle := hk.len
  have hrm := hk.rm.2
  obtain ⟨c, hc⟩ : ∃ c, putN K D = c := ⟨_, rfl⟩
  have hcD : c ≤ D.length := by unfold putN at hc; omega
  have hcm : c = min D.length (K.room - K.l.length) := by rw [← hc]; rfl
  have w1 : IntKind.i64.wrap ((K.room : Int) - (K.l.length : Int)) = ((K.room - K.l.length : Nat) : Int) := room_cast hle hrm
  have w2 : (if K.room - K.l.length < D.length then ((K.room - K.l.length : Nat) : Int) else (D.length : Int)) = (c : Int) := by split <;> omega
  have X : Hid (Box 53 w fb (fifoC K (.slice av K.l.length cv)) ∧ WA w (.slice av K.l.length cv) g K.l ∧ g < w.heap.size ∧ (putK K D).Ok ∧ RL w (.slice ax D.length cx) d D ∧ putN K D = c) := ⟨hx, ha, hg, hk2, hr, hc⟩
  have B : Hid (K.l.length ≤ K.room ∧ K.room ≤ 4096 ∧ c = min D.length (K.room - K.l.length) ∧ D.length ≤ 100000 ∧ c ≤ D.length) := ⟨hle, hrm, hcm, hL, hcD⟩
  have HW : Hid (IntKind.i64.wrap ((K.room : Int) - (K.l.length : Int)) = ((K.room - K.l.length : Nat) : Int) ∧ (if K.room - K.l.length < D.length then ((K.room - K.l.length : Nat) : Int) else (D.length : Int)) = (c : Int)) := ⟨w1, w2⟩
  have c0 := hx.cell 0 (.slice av K.l.length cv) rfl
  have c1 := hx.cell 1 (.int .i64 (K.room : Nat)) rfl
  have U0 := Upon.refl fb w
  clear hx ha hg hk hr hk2 hle hrm hcm hcD hc w2 hD hL
  generalize hn : K.l.length = n at *
  generalize hrr : K.room - n = rr at *
  generalize hm : D.length = m at *
  go_enter Try.func12, Try.ntmps12
  go_upto_region 3 with fail
  refine wp_region_held_drew (S := fun V => V.cell? ⟨fb, 0, none⟩ = some (.slice av n cv) ∧ V.cell? ⟨fb, 1, none⟩ = some (.int .i64 (K.room : Nat))) (by kernel_rfl) ⟨by simpa using c0, by simpa using c1⟩ ?_
  intro hS
  refine wpAnyH_take (i := 0) (v := ?_) rfl (by kernel_rfl) (by kernel_rfl) (by kernel_rfl) (fun _ _ _ h => h) (Or.inl ⟨by kernel_rfl, ?_⟩) hS ?_
  rotate_left
  · intro w hSw; (try dsimp only at hSw); go_simp; try (with_reducible rfl)
  (try simp only [Act.put, List.getElem_toArray, List.getElem_cons_succ, List.getElem_cons_zero, List.setIfInBounds_toArray, List.set_cons_zero, List.set_cons_succ])
  refine wpAnyH_take (i := 1) (v := ?_) rfl (by kernel_rfl) (by kernel_rfl) (by kernel_rfl) (fun _ _ _ h => h) (Or.inl ⟨by kernel_rfl, ?_⟩) hS ?_
  rotate_left
  · intro w hSw; (try dsimp only at hSw); go_simp; try (with_reducible rfl)
  (try simp only [Act.put, List.getElem_toArray, List.getElem_cons_succ, List.getElem_cons_zero, List.setIfInBounds_toArray, List.set_cons_zero, List.set_cons_succ])
  refine wpAnyH_take (i := 2) (v := ?_) rfl (by kernel_rfl) (by kernel_rfl) (by kernel_rfl) (fun _ _ _ h => h) (Or.inl ⟨by kernel_rfl, ?_⟩) hS ?_
  rotate_left
  · intro w hSw; (try dsimp only at hSw); go_simp; try (with_reducible rfl)
  (try simp only [Act.put, List.getElem_toArray, List.getElem_cons_succ, List.getElem_cons_zero, List.setIfInBounds_toArray, List.set_cons_zero, List.set_cons_succ])
  refine wpAnyH_take (i := 3) (v := ?_) rfl (by kernel_rfl) (by kernel_rfl) (by kernel_rfl) (fun _ _ _ h => h) (Or.inl ⟨by kernel_rfl, ?_⟩) hS ?_
  rotate_left
  · intro w hSw; (try dsimp only at hSw); go_simp; try (with_reducible rfl)
  (try simp only [Act.put, List.getElem_toArray, List.getElem_cons_succ, List.getElem_cons_zero, List.setIfInBounds_toArray, List.set_cons_zero, List.set_cons_succ])
  refine wpAnyH_take (i := 4) (v := ?_) rfl (by kernel_rfl) (by kernel_rfl) (by kernel_rfl) (fun _ _ _ h => h) (Or.inl ⟨by kernel_rfl, ?_⟩) hS ?_
  rotate_left
  · intro w hSw; (try dsimp only at hSw); go_simp; try (with_reducible rfl)
  (try simp only [Act.put, List.getElem_toArray, List.getElem_cons_succ, List.getElem_cons_zero, List.setIfInBounds_toArray, List.set_cons_zero, List.set_cons_succ])
  refine wpAnyH_take (i := 5) (v := ?_) rfl (by kernel_rfl) (by kernel_rfl) (by kernel_rfl) (fun _ _ _ h => h) (Or.inl ⟨by kernel_rfl, ?_⟩) hS ?_
  rotate_left
  · intro w hSw; (try dsimp only at hSw); go_simp; try (with_reducible rfl)
  (try simp only [Act.put, List.getElem_toArray, List.getElem_cons_succ, List.getElem_cons_zero, List.setIfInBounds_toArray, List.set_cons_zero, List.set_cons_succ])
  refine wpAnyH_take (i := 6) (v := ?_) rfl (by kernel_rfl) (by kernel_rfl) (by kernel_rfl) (fun _ _ _ h => h) (Or.inl ⟨by kernel_rfl, ?_⟩) hS ?_
  rotate_left
  · intro w hSw; (try dsimp only at hSw); go_simp; try (with_reducible rfl)
  (try simp only [Act.put, List.getElem_toArray, List.getElem_cons_succ, List.getElem_cons_zero, List.setIfInBounds_toArray, List.set_cons_zero, List.set_cons_succ])
  refine wpAnyH_take (i := 7) (v := ?_) rfl (by kernel_rfl) (by kernel_rfl) (by kernel_rfl) (fun _ _ _ h => h) (Or.inl ⟨by kernel_rfl, ?_⟩) hS ?_
  rotate_left
  · intro w hSw; (try dsimp only at hSw); go_simp; try (with_reducible rfl)
  (try simp only [Act.put, List.getElem_toArray, List.getElem_cons_succ, List.getElem_cons_zero, List.setIfInBounds_toArray, List.set_cons_zero, List.set_cons_succ])
  refine wpAnyH_take (i := 8) (v := ?_) rfl (by kernel_rfl) (by kernel_rfl) (by kernel_rfl) (fun _ _ _ h => h) (Or.inl ⟨by kernel_rfl, ?_⟩) hS ?_
  rotate_left
  · intro w hSw; (try dsimp only at hSw); go_simp; try (with_reducible rfl)
  (try simp only [Act.put, List.getElem_toArray, List.getElem_cons_succ, List.getElem_cons_zero, List.setIfInBounds_toArray, List.set_cons_zero, List.set_cons_succ])
  refine wpAnyH_take (i := 9) (v := ?_) rfl (by kernel_rfl) (by kernel_rfl) (by kernel_rfl) (fun _ _ _ h => h) (Or.inl ⟨by kernel_rfl, ?_⟩) hS ?_
  rotate_left
  · intro w hSw; (try dsimp only at hSw); go_simp; try (with_reducible rfl)
  (try simp only [Act.put, List.getElem_toArray, List.getElem_cons_succ, List.getElem_cons_zero, List.setIfInBounds_toArray, List.set_cons_zero, List.set_cons_succ])
  refine wpAnyH_take (i := 10) (v := ?_) rfl (by kernel_rfl) (by kernel_rfl) (by kernel_rfl) (fun _ _ _ h => h) (Or.inl ⟨by kernel_rfl, ?_⟩) hS ?_
  rotate_left
  · intro w hSw; (try dsimp only at hSw); go_simp; try (with_reducible rfl)
  (try simp only [Act.put, List.getElem_toArray, List.getElem_cons_succ, List.getElem_cons_zero, List.setIfInBounds_toArray, List.set_cons_zero, List.set_cons_succ])
  refine wpAnyH_take (i := 11) (v := ?_) rfl (by kernel_rfl) (by kernel_rfl) (by kernel_rfl) (fun _ _ _ h => h) (Or.inl ⟨by kernel_rfl, ?_⟩) hS ?_
  rotate_left
  · intro w hSw; (try dsimp only at hSw); go_simp; try (with_reducible rfl)
  (try simp only [Act.put, List.getElem_toArray, List.getElem_cons_succ, List.getElem_cons_zero, List.setIfInBounds_toArray, List.set_cons_zero, List.set_cons_succ])
  refine wpAnyH_take (i := 12) (v := ?_) rfl (by kernel_rfl) (by kernel_rfl) (by kernel_rfl) (fun _ _ _ h => h) (Or.inl ⟨by kernel_rfl, ?_⟩) hS ?_
  rotate_left
  · intro w hSw; (try dsimp only at hSw); go_simp; try (with_reducible rfl)
  (try simp only [Act.put, List.getElem_toArray, List.getElem_cons_succ, List.getElem_cons_zero, List.setIfInBounds_toArray, List.set_cons_zero, List.set_cons_succ])
  refine wpAnyH_take (i := 13) (v := ?_) rfl (by kernel_rfl) (by kernel_rfl) (by kernel_rfl) (fun _ _ _ h => h) (Or.inl ⟨by kernel_rfl, ?_⟩) hS ?_
  rotate_left
  · intro w hSw; (try dsimp only at hSw); go_simp; try (with_reducible rfl)
  (try simp only [Act.put, List.getElem_toArray, List.getElem_cons_succ, List.getElem_cons_zero, List.setIfInBounds_toArray, List.set_cons_zero, List.set_cons_succ])
  simp only [HW.out.2]
  refine wpAnyH_done (by kernel_rfl) ?_ _
  clear hS
  have Xd : Hid (Box 53 w.drew fb (fifoC K (.slice av n cv)) ∧ WA w.drew (.slice av n cv) g K.l ∧ RL w.drew (.slice ax m cx) d D ∧ Below w.heap.size w w.drew) := ⟨X.out.1.drew, X.out.2.1.step (Below.drew (Below.refl _ _)), X.out.2.2.2.2.1.step (Below.drew (Below.refl _ _)), Below.drew (Below.refl _ _)⟩
  generalize w.drew = wa at *
  go_upto_region 4 with fail
  have Xe : Hid (Box 53 wa.drew fb (fifoC K (.slice av n cv)) ∧ WA wa.drew (.slice av n cv) g K.l ∧ RL wa.drew (.slice ax m cx) d D ∧ Below w.heap.size w wa.drew) := ⟨Xd.out.1.drew, Xd.out.2.1.step (Below.drew (Below.refl _ _)), Xd.out.2.2.1.step (Below.drew (Below.refl _ _)), Below.drew Xd.out.2.2.2⟩
  obtain ⟨v1, hrun, h1⟩ := run_hi (k := c) Xe.out.2.2.1 (by rw [hm]; exact B.out.2.2.2.2)
  have R1 : Hid (RL wa.drew v1 d (D.take c) ∧ ∀ V, (Instr.sliceAt 25 (.slice ax m cx) none (some (.int .i64 (c : Nat))) none).run Try.prog V = .ok v1 V) := ⟨h1, hrun⟩
  clear h1 hrun Xd
  refine wp_region_held_drew (S := fun _ => True) (by kernel_rfl) trivial ?_
  intro hS
  generalize wa.drew = wb at *
  refine wpAnyH_take (i := 0) (v := ?_) rfl (by kernel_rfl) (by kernel_rfl) (by kernel_rfl) (fun _ _ _ h => h) (Or.inl ⟨by kernel_rfl, ?_⟩) hS ?_
  rotate_left
  · intro w hSw; (try dsimp only at hSw); go_simp; try (with_reducible rfl)
  (try simp only [Act.put, List.getElem_toArray, List.getElem_cons_succ, List.getElem_cons_zero, List.setIfInBounds_toArray, List.set_cons_zero, List.set_cons_succ])
  refine wpAnyH_take (i := 1) (v := ?_) rfl (by kernel_rfl) (by kernel_rfl) (by kernel_rfl) (fun _ _ _ h => h) (Or.inl ⟨by kernel_rfl, ?_⟩) hS ?_
  rotate_left
  · intro w hSw; (try dsimp only at hSw); go_simp; try (with_reducible rfl)
  (try simp only [Act.put, List.getElem_toArray, List.getElem_cons_succ, List.getElem_cons_zero, List.setIfInBounds_toArray, List.set_cons_zero, List.set_cons_succ])
  refine wpAnyH_take (i := 2) (v := ?_) rfl (by kernel_rfl) (by kernel_rfl) (by kernel_rfl) (fun _ _ _ h => h) (Or.inl ⟨by kernel_rfl, ?_⟩) hS ?_
  rotate_left
  · intro w hSw; (try dsimp only at hSw); go_simp; try (with_reducible rfl)
  (try simp only [Act.put, List.getElem_toArray, List.getElem_cons_succ, List.getElem_cons_zero, List.setIfInBounds_toArray, List.set_cons_zero, List.set_cons_succ])
  refine wpAnyH_take (i := 3) (v := ?_) rfl (by kernel_rfl) (by kernel_rfl) (by kernel_rfl) (fun _ _ _ h => h) (Or.inl ⟨by kernel_rfl, ?_⟩) hS ?_
  rotate_left
  · intro w hSw; (try dsimp only at hSw); go_simp; try (with_reducible rfl)
  (try simp only [Act.put, List.getElem_toArray, List.getElem_cons_succ, List.getElem_cons_zero, List.setIfInBounds_toArray, List.set_cons_zero, List.set_cons_succ])
  refine wpAnyH_take (i := 5) (v := ?_) rfl (by kernel_rfl) (by kernel_rfl) (by kernel_rfl) (fun _ _ _ h => h) (Or.inl ⟨by kernel_rfl, ?_⟩) hS ?_
  rotate_left
  · intro w hSw; (try dsimp only at hSw); go_simp; try (with_reducible rfl)
  (try simp only [Act.put, List.getElem_toArray, List.getElem_cons_succ, List.getElem_cons_zero, List.setIfInBounds_toArray, List.set_cons_zero, List.set_cons_succ])
  refine wpAnyH_take (i := 6) (v := ?_) rfl (by kernel_rfl) (by kernel_rfl) (by kernel_rfl) (fun _ _ _ h => h) (Or.inl ⟨by kernel_rfl, ?_⟩) hS ?_
  rotate_left
  · intro w hSw; (try dsimp only at hSw); go_simp; try (with_reducible rfl)
  (try simp only [Act.put, List.getElem_toArray, List.getElem_cons_succ, List.getElem_cons_zero, List.setIfInBounds_toArray, List.set_cons_zero, List.set_cons_succ])
  refine wpAnyH_take (i := 7) (v := v1) rfl (by kernel_rfl) (by kernel_rfl) (by kernel_rfl) (fun _ _ _ h => h) (Or.inl ⟨by kernel_rfl, fun V _ => yield_hi R1.out.2 _ _ rfl rfl rfl⟩) hS ?_
  (try simp only [Act.put, List.getElem_toArray, List.getElem_cons_succ, List.getElem_cons_zero, List.setIfInBounds_toArray, List.set_cons_zero, List.set_cons_succ])
  refine wpAnyH_ready (rs := [4]) (by kernel_rfl) (by simp) ?_
  refine AllReadyH.cons rfl (fun K1 hK1 => ?_) AllReadyH.nil
  have c0 := Xe.out.1.cell 0 (.slice av n cv) rfl
  go_simp
  refine hK1.out _ _ trivial (fun hS2 => ?_)
  clear hK1 K1 hS c0
  (try simp only [Act.put, List.getElem_toArray, List.getElem_cons_succ, List.getElem_cons_zero, List.setIfInBounds_toArray, List.set_cons_zero, List.set_cons_succ])
  refine wpAnyH_ready (rs := [8]) (by kernel_rfl) (by simp) ?_
  refine AllReadyH.cons rfl (fun K1 hK1 => ?_) AllReadyH.nil
  rw [if_pos (by kernel_rfl)]
  refine wp_append_fifo (l := K.l) (D := D.take c) _ _ rfl rfl rfl Xe.out.1 Xe.out.2.1 R1.out.1 (by have b := B.out; rw [List.length_take, hn, hm]; omega) ?_
  intro v2 w2 g2 Y
  have Y2 : Hid (WA w2 v2 g2 (K.l ++ D.take c) ∧ Box 53 w2 fb (fifoC K (.slice av n cv)) ∧ Two fb g w w2 ∧ (g2 = g ∨ w.heap.size ≤ g2) ∧ g2 < w2.heap.size) := by
    obtain ⟨y1, y2, y3, y4⟩ := Y.out
    have hs := Xe.out.2.2.2.size
    have hg := X.out.2.2.1
    have hs2 := y3.size
    refine ⟨y1, y2, (Two.of_below Xe.out.2.2.2).trans (Two.of_upon2 y3), ?_, ?_⟩ <;> omega
  clear Y
  refine hK1.out _ _ trivial (fun hS => ?_)
  clear hK1 K1 hS2
  (try simp only [Act.put, List.getElem_toArray, List.getElem_cons_succ, List.getElem_cons_zero, List.setIfInBounds_toArray, List.set_cons_zero, List.set_cons_succ])
  refine wpAnyH_take (i := 9) (v := ?_) rfl (by kernel_rfl) (by kernel_rfl) (by kernel_rfl) (fun _ _ _ h => h) (Or.inl ⟨by kernel_rfl, ?_⟩) hS ?_
  rotate_left
  · intro w hSw; (try dsimp only at hSw); go_simp; try (with_reducible rfl)
  (try simp only [Act.put, List.getElem_toArray, List.getElem_cons_succ, List.getElem_cons_zero, List.setIfInBounds_toArray, List.set_cons_zero, List.set_cons_succ])
  refine wpAnyH_take (i := 10) (v := ?_) rfl (by kernel_rfl) (by kernel_rfl) (by kernel_rfl) (fun _ _ _ h => h) (Or.inl ⟨by kernel_rfl, ?_⟩) hS ?_
  rotate_left
  · intro w hSw; (try dsimp only at hSw); go_simp; try (with_reducible rfl)
  (try simp only [Act.put, List.getElem_toArray, List.getElem_cons_succ, List.getElem_cons_zero, List.setIfInBounds_toArray, List.set_cons_zero, List.set_cons_succ])
  refine wpAnyH_ready (rs := [11]) (by kernel_rfl) (by simp) ?_
  refine AllReadyH.cons rfl (fun K1 hK1 => ?_) AllReadyH.nil
  have hform := Y2.out.1.reads.form
  generalize (K.l ++ D.take c).length = ln at hform
  obtain ⟨a2, cp2, hv2⟩ := hform
  subst hv2
  have c0 := Y2.out.2.1.cell 0 (.slice av n cv) rfl
  have f0 := Y2.out.2.1.frozen 0
  go_simp
  have Z : Hid (Box 53 (w2.setCell ⟨fb, 0, none⟩ (.slice a2 ln cp2)) fb (fifoC K (.slice a2 ln cp2)) ∧ WA (w2.setCell ⟨fb, 0, none⟩ (.slice a2 ln cp2)) (.slice a2 ln cp2) g2 (K.l ++ D.take c) ∧ Two fb g w (w2.setCell ⟨fb, 0, none⟩ (.slice a2 ln cp2)) ∧ (g2 = g ∨ w.heap.size ≤ g2) ∧ g2 < (w2.setCell ⟨fb, 0, none⟩ (.slice a2 ln cp2)).heap.size) := by
    obtain ⟨y1, y2, y3, y4, y5⟩ := Y2.out
    have hu : Upon fb w2 (w2.setCell ⟨fb, 0, none⟩ (.slice a2 ln cp2)) := (Upon.refl _ _).set 0 _
    exact ⟨y2.set 0 _, wa_cells y2 y1 hu, y3.trans (Two.of_upon hu), y4, by simpa using y5⟩
  refine hK1.out _ _ trivial (fun hS3 => ?_)
  clear hK1 K1 hS hS3 c0 f0 Y2
  generalize w2.setCell ⟨fb, 0, none⟩ (.slice a2 ln cp2) = w3 at *
  (try simp only [Act.put, List.getElem_toArray, List.getElem_cons_succ, List.getElem_cons_zero, List.setIfInBounds_toArray, List.set_cons_zero, List.set_cons_succ])
  refine wpAnyH_done (by kernel_rfl) ?_ _
  have c2 := Z.out.1.cell 2 (.int .u64 (K.lost : Nat)) rfl
  have f2 := Z.out.1.frozen 2
  obtain ⟨q, hq⟩ : ∃ q, m - c = q := ⟨_, rfl⟩
  have b := B.out
  have e1 : IntKind.i64.wrap ((m : Int) - (c : Int)) = (q : Int) := by simp [IntKind.wrap, IntKind.signed, IntKind.bits, Int.bmod]; omega
  have e2 : IntKind.u64.wrap (q : Int) = (q : Int) := by rw [wrap_u64]; omega
  have e3 : IntKind.u64.wrap ((K.lost : Int) + (q : Int)) = (((K.lost + q) % 18446744073709551616 : Nat) : Int) := by rw [wrap_u64]; omega
  have hL : ((K.lost + q) % 18446744073709551616) = (putK K D).lost := by show _ = (K.lost + (D.length - putN K D)) % 18446744073709551616; rw [hm, X.out.2.2.2.2.2, hq]
  rw [hL] at e3
  clear b hL
  go_upto_region 6 with fail
  have F : Hid (FifoAt (w3.setCell ⟨fb, 2, none⟩ (.int .u64 ((putK K D).lost : Nat))) fb g2 (putK K D) ∧ Two fb g w (w3.setCell ⟨fb, 2, none⟩ (.int .u64 ((putK K D).lost : Nat))) ∧ (g2 = g ∨ w.heap.size ≤ g2) ∧ putN K D = c) := by
    obtain ⟨z1, z2, z3, z4, z5⟩ := Z.out
    have hu : Upon fb w3 (w3.setCell ⟨fb, 2, none⟩ (.int .u64 ((putK K D).lost : Nat))) := (Upon.refl _ _).set 2 _
    have e : (putK K D).l = K.l ++ D.take c := by show K.l ++ D.take (putN K D) = _; rw [X.out.2.2.2.2.2]
    refine ⟨⟨_, z1.set 2 _, by rw [e]; exact wa_cells z1 z2 hu, by simpa using z5, X.out.2.2.2.1⟩, z3.trans (Two.of_upon hu), z4, X.out.2.2.2.2.2⟩
  clear Z c2 f2 X R1 Xe
  generalize w3.setCell ⟨fb, 2, none⟩ (.int .u64 ((putK K D).lost : Nat)) = w4 at *
  go_wp2
  go_ret
  exact ⟨g2, by rw [F.out.2.2.2]; rfl, F.out.1, F.out.2.1, F.out.2.2.1⟩
theorem takeK_none {K : Fi} (h : K.Ok) (n : Int) (h0 : tookN K n = 0) : takeK K n = K := by
  unfold takeK
  rw [h0, List.drop_zero, Nat.add_zero, Nat.mod_eq_of_lt h.ta]
set_option maxHeartbeats 4000000 in
theorem take_any {w : World} {fb g : Nat} {K : Fi} (h : FifoAt w fb g K) (n : Int) :
    Calls Try.prog 13 #[.pointer (some ⟨fb, 0, none⟩), .int .i64 n] w fun e w' => ∃ v d g', e = .returned v ∧ RL w' v d (tookL K n) ∧ FifoAt w' fb g' (takeK K n) ∧ Upon fb w w' ∧ (g' = g ∨ w.heap.size ≤ g') := by
  have hle := h.ok.len
  have hrm := h.ok.rm.2
  have hk := tookL_length K n
  have hkl : tookN K n ≤ K.l.length := Nat.min_le_right _ _
  have HN : Hid (tookN K n = 0 → takeK K n = K) := takeK_none h.ok n
  have HT : Hid (takeK K n).Ok := takeK_ok h.ok n
  have H : Hid (FifoAt w fb g K) := h
  have hfl := h.lt
  clear h
  have HLd : Hid ((takeK K n).l = K.l.drop (tookN K n) ∧ (takeK K n).taken = (K.taken + tookN K n) % 18446744073709551616) := ⟨rfl, rfl⟩
  generalize hkk : tookN K n = k at *
  go_enter Try.func13, Try.ntmps13
  go_wp2_with fail
  refine (peek_any H.out n (w.heap.size + 7)).mono ?_
  rintro e w1 ⟨v, gv, rfl, h1, h2, h3⟩
  have R : Hid (RL w1 v gv (tookL K n) ∧ FifoAt w1 fb g K ∧ Below w.heap.size w w1) := ⟨h1.reads, H.out.step h2, h2⟩
  have hgv : gv ≠ fb := by omega
  clear h1 h2 h3 H
  have hform := R.out.1.form
  rw [hk] at hform
  obtain ⟨a1, cp1, hv⟩ := hform
  subst hv
  clear hk
  by_cases h0 : k = 0
  · have e0 := HN.out h0
    subst h0
    have n0 : decide ((0 : Int) < ((0 : Nat) : Int)) = false := by simp
    go_wp2
    go_ret
    exact ⟨_, gv, g, rfl, R.out.1, by rw [e0]; exact R.out.2.1, Upon.of_below R.out.2.2, .inl rfl⟩
  · have n0 : decide ((0 : Int) < (k : Int)) = true := by simp; omega
    have n1 : decide (0 < k) = true := by simp; omega
    obtain ⟨vw, hx, ha, hg, hok⟩ := R.out.2.1
    have W1 : Hid (Box 53 w1 fb (fifoC K vw) ∧ WA w1 vw g K.l ∧ g < w1.heap.size) := ⟨hx, ha, hg⟩
    have c0 := hx.cell 0 vw rfl
    clear hx ha hg
    obtain ⟨aw, cw, hv⟩ := W1.out.2.1.reads.form
    subst hv
    go_upto_region 3 with fail
    refine wp_region_list ?_
    (refine wpList_step (fun KK hKK => ?_); go_simp; refine hKK _ _ ?_; clear hKK KK)
    (refine wpList_step (fun KK hKK => ?_); go_simp; refine hKK _ _ ?_; clear hKK KK)
    (refine wpList_step (fun KK hKK => ?_); go_simp; refine hKK _ _ ?_; clear hKK KK)
    (refine wpList_step (fun KK hKK => ?_); go_simp; refine hKK _ _ ?_; clear hKK KK)
    (refine wpList_step (fun KK hKK => ?_); go_simp; refine hKK _ _ ?_; clear hKK KK)
    (refine wpList_step (fun KK hKK => ?_); go_simp; refine hKK _ _ ?_; clear hKK KK)
    (refine wpList_step (fun KK hKK => ?_); go_simp; refine hKK _ _ ?_; clear hKK KK)
    refine wpList_lo (k := k) rfl _ _ rfl rfl rfl W1.out.2.1.reads hkl ?_
    intro v2 h2
    have R2 : Hid (RL w1 v2 g (K.l.drop k)) := h2
    clear h2
    have hform2 := R2.out.form
    generalize (K.l.drop k).length = ln at hform2
    obtain ⟨a2, cp2, hv⟩ := hform2
    subst hv
    refine wpList_step (fun KK hKK => ?_)
    go_simp
    refine (own_any g R2.out (by rw [List.length_drop]; omega)).mono ?_
    rintro e w2 ⟨v3, g2, rfl, h1, h2, h3⟩
    have Y : Hid (Box 53 w2 fb (fifoC K (.slice aw K.l.length cw)) ∧ WA w2 v3 g2 (K.l.drop k) ∧ g2 < w2.heap.size ∧ (g2 = g ∨ w.heap.size ≤ g2) ∧ RL w2 (.slice a1 k cp1) gv (tookL K n) ∧ Below w.heap.size w w2) := by
      have s1 := R.out.2.2.size
      have s2 := h2.size
      have s3 := W1.out.2.2
      exact ⟨W1.out.1.step h2, h1, by omega, by omega, R.out.1.step h2, R.out.2.2.trans (h2.mono s1)⟩
    clear h1 h2 h3 W1 R R2 c0
    have hform3 := Y.out.2.1.reads.form
    generalize (K.l.drop k).length = ln3 at hform3
    obtain ⟨a3, cp3, hv⟩ := hform3
    subst hv
    refine hKK _ _ ?_
    clear hKK KK
    have c0 := Y.out.1.cell 0 (.slice aw K.l.length cw) rfl
    have f0 := Y.out.1.frozen 0
    go_upto_region 4 with fail
    have Z : Hid (Box 53 (w2.setCell ⟨fb, 0, none⟩ (.slice a3 ln3 cp3)) fb (fifoC K (.slice a3 ln3 cp3)) ∧ WA (w2.setCell ⟨fb, 0, none⟩ (.slice a3 ln3 cp3)) (.slice a3 ln3 cp3) g2 (K.l.drop k) ∧ g2 < (w2.setCell ⟨fb, 0, none⟩ (.slice a3 ln3 cp3)).heap.size ∧ (g2 = g ∨ w.heap.size ≤ g2) ∧ RL (w2.setCell ⟨fb, 0, none⟩ (.slice a3 ln3 cp3)) (.slice a1 k cp1) gv (tookL K n) ∧ Upon fb w (w2.setCell ⟨fb, 0, none⟩ (.slice a3 ln3 cp3)) ∧ gv ≠ fb) := by
      obtain ⟨y1, y2, y3, y4, y5, y6⟩ := Y.out
      have hu : Upon fb w2 (w2.setCell ⟨fb, 0, none⟩ (.slice a3 ln3 cp3)) := (Upon.refl _ _).set 0 _
      exact ⟨y1.set 0 _, wa_cells y1 y2 hu, by simpa using y3, y4, y5.upon hu hgv, (Upon.of_below y6).trans hu, hgv⟩
    clear Y c0 f0
    generalize w2.setCell ⟨fb, 0, none⟩ (.slice a3 ln3 cp3) = w3 at *
    have c3 := Z.out.1.cell 3 (.int .u64 (K.taken : Nat)) rfl
    have f3 := Z.out.1.frozen 3
    have e2 : IntKind.u64.wrap (k : Int) = (k : Int) := by rw [wrap_u64]; omega
    have e3 : IntKind.u64.wrap ((K.taken : Int) + (k : Int)) = ((takeK K n).taken : Int) := by rw [wrap_u64, HLd.out.2]; omega
    go_upto_region 5 with fail
    have F : Hid (FifoAt (w3.setCell ⟨fb, 3, none⟩ (.int .u64 ((takeK K n).taken : Nat))) fb g2 (takeK K n) ∧ Upon fb w (w3.setCell ⟨fb, 3, none⟩ (.int .u64 ((takeK K n).taken : Nat))) ∧ RL (w3.setCell ⟨fb, 3, none⟩ (.int .u64 ((takeK K n).taken : Nat))) (.slice a1 k cp1) gv (tookL K n) ∧ (g2 = g ∨ w.heap.size ≤ g2)) := by
      obtain ⟨z1, z2, z3, z4, z5, z6, z7⟩ := Z.out
      have hu : Upon fb w3 (w3.setCell ⟨fb, 3, none⟩ (.int .u64 ((takeK K n).taken : Nat))) := (Upon.refl _ _).set 3 _
      refine ⟨⟨.slice a3 ln3 cp3, ?_, by rw [HLd.out.1]; exact wa_cells z1 z2 hu, by simpa using z3, HT.out⟩, z6.trans hu, z5.upon hu z7, z4⟩
      have := z1.set 3 (.int .u64 ((takeK K n).taken : Nat))
      exact this
    clear Z c3 f3
    generalize w3.setCell ⟨fb, 3, none⟩ (.int .u64 ((takeK K n).taken : Nat)) = w4 at *
    go_wp2
    go_ret
    exact ⟨_, gv, g2, rfl, F.out.2.2.1, F.out.1, F.out.2.1, F.out.2.2.2⟩
end Go.Proofs.Ytjmgdhnjldimgaa
