/- The program's calls Set, causeWord, place and Delegated of layers 8 and 9. -/
import Derived.Test.YtdljceeoofhfnaaDoorTn
import Derived.Test.YtdljceeoofhfnaaDoorRd
namespace Go.Proofs.YtdljceeoofhfnaaDoor
open Go.RowKit Go.Maps
set_option linter.unusedVariables false
set_option linter.unusedSimpArgs false
set_option maxRecDepth 100000
theorem set_any (m : Int) (K : Nat → Nat) (j : Int) (bb : Bool) (b : Nat) (hK : Ok K) (w : World) (hB : Box 29 w b (fileC m K)) : Calls Tryd.prog 39 #[.pointer (some ⟨b, 0, none⟩), .int .i64 j, .bool bb] w fun e w' => e = .returned (.tuple #[]) ∧ Box 29 w' b (fileC m (setK K j bb)) ∧ Upon b w w' := by
  cases bb
  · exact set_off m K j b hK w hB
  · exact set_on m K j b hK w hB
theorem isb_any (m : Int) (K : Nat → Nat) (j : Int) (b : Nat) (hK : Ok K) (w : World) (hB : Box 29 w b (fileC m K)) : Calls Tryd.prog 11 #[.pointer (some ⟨b, 0, none⟩), .int .i64 j] w fun e w' => e = .returned (.bool (isB K j)) ∧ Below w.heap.size w w' := is_any m K j b hK w hB
theorem keepk_any (m : Int) (K : Nat → Nat) (v b : Nat) (hv : v ≤ 3) (hK : Ok K) (w : World) (hB : Box 29 w b (fileC m K)) : Calls Tryd.prog 41 #[.pointer (some ⟨b, 0, none⟩), .int .i64 (v : Int)] w fun e w' => e = .returned (.tuple #[]) ∧ Box 29 w' b (fileC m (keepK K v)) ∧ Upon b w w' := keep_any m K v b hv hK w hB
/-- a trap, cell by cell -/
def trapC (c v : Nat) (i : Bool) : Array Value := #[.int .i64 (c : Int), .int .u64 (v : Int), .bool i]
theorem bits_63 : hiOf (setF (fun _ => 63) 1) 64 0 = 9223372036854775808 := by decide +kernel
theorem bits_top (V : World) (g cp : Nat) (hg : V.cell? ⟨g, 0, none⟩ = some (.int .i64 63)) : Calls Tryd.prog 28 #[.slice (some ⟨g, 0, none⟩) 1 cp] V fun e w' => e = .returned (.int .u64 9223372036854775808) ∧ w' = V := by
  have h := wbits_any (fun _ => 63) 1 (.slice (some ⟨g, 0, none⟩) 1 cp) (by omega) V (.inr ⟨g, 0, cp, rfl, fun i hi => by rw [show 0 + i = 0 from by omega]; exact hg⟩)
  rw [bits_63] at h
  exact h
theorem wrap_c (c : Nat) (hc : c < 64) : IntKind.u64.wrap (c : Int) = c := by rw [wrap_u64]; omega
theorem ret_int {a b : Int} (h : a = b) : Ending.returned (.int .u64 a) = .returned (.int .u64 b) := by rw [h]
theorem trap_new (w : World) (c v : Nat) (i : Bool) : Box 36 (w.alloc (.cells (trapC c v i) 36)) w.heap.size (trapC c v i) ∧ Below w.heap.size w (w.alloc (.cells (trapC c v i) 36)) := ⟨Box.new _ _ _, (Below.refl _ _).alloc (Nat.le_refl _) _⟩
theorem cause_any (c v : Nat) (i : Bool) (hc : c < 64) (w : World) : Calls Tryd.prog 38 #[.agg (trapC c v i)] w fun e w' => e = .returned (.int .u64 (causeN c i : Nat)) ∧ Below w.heap.size w w' := by
  have HX : Hid (Box 36 (w.alloc (.cells (trapC c v i) 36)) w.heap.size (trapC c v i) ∧ Below w.heap.size w (w.alloc (.cells (trapC c v i) 36))) := trap_new w c v i
  have hw := wrap_c c hc
  have hor := or_top c hc
  unfold causeN
  cases i
  · rw [if_neg (by decide)]
    clear hc hor
    go_enter Tryd.func38, Tryd.ntmps38
    go_upto_region 1 with fail
    generalize (w.alloc (.cells (trapC c v false) 36)) = W at *
    have c0 : W.cell? ⟨w.heap.size, 0, none⟩ = some (.int .i64 (c : Int)) := HX.out.1.cell 0 _ rfl
    have c2 : W.cell? ⟨w.heap.size, 2, none⟩ = some (.bool false) := HX.out.1.cell 2 _ rfl
    go_wp2_with fail
    go_ret
    exact ⟨rfl, HX.out.2⟩
  · rw [if_pos rfl]
    generalize c + 9223372036854775808 = y at *
    clear hc
    go_enter Tryd.func38, Tryd.ntmps38
    go_upto_region 1 with fail
    generalize (w.alloc (.cells (trapC c v true) 36)) = W at *
    have c2 : W.cell? ⟨w.heap.size, 2, none⟩ = some (.bool true) := HX.out.1.cell 2 _ rfl
    go_upto_region 2 with fail
    clear c2
    have HY : Hid (Box 36 W.drew w.heap.size (trapC c v true) ∧ Below w.heap.size w W.drew) := ⟨HX.out.1.step (below_drew1 _), HX.out.2.trans ((below_drew1 _).mono HX.out.2.size)⟩
    refine wp_region_held_drew (S := fun V => V.cell? ⟨w.heap.size, 0, none⟩ = some (.int .i64 (c : Int))) (by kernel_rfl) (HY.out.1.cell 0 _ rfl) ?_
    intro hS
    refine wpAnyH_take (i := 0) (v := ?_) rfl (by kernel_rfl) (by kernel_rfl) (by kernel_rfl) (fun _ _ _ h => h) (Or.inl ⟨by kernel_rfl, ?_⟩) hS ?_
    rotate_left
    · intro w hSw; (try dsimp only at hSw); go_simp; try (with_reducible rfl)
    (try simp only [Act.put, List.getElem_toArray, List.getElem_cons_succ, List.getElem_cons_zero, List.setIfInBounds_toArray, List.set_cons_zero, List.set_cons_succ])
    refine wpAnyH_take (i := 1) (v := ?_) rfl (by kernel_rfl) (by kernel_rfl) (by kernel_rfl) (fun _ _ _ h => h) (Or.inl ⟨by kernel_rfl, ?_⟩) hS ?_
    rotate_left
    · intro w hSw; (try dsimp only at hSw); go_simp; try (with_reducible rfl)
    (try simp only [Act.put, List.getElem_toArray, List.getElem_cons_succ, List.getElem_cons_zero, List.setIfInBounds_toArray, List.set_cons_zero, List.set_cons_succ])
    refine wpAnyH_take (i := 2) (v := ?_) rfl (by kernel_rfl) (by kernel_rfl) (by kernel_rfl) (fun _ _ _ h => h) (Or.inl ⟨by kernel_rfl, ?_⟩) hS ?_
    rotate_left
    · intro w hSw; (try dsimp only at hSw); go_simp; try (with_reducible rfl)
    (try simp only [Act.put, List.getElem_toArray, List.getElem_cons_succ, List.getElem_cons_zero, List.setIfInBounds_toArray, List.set_cons_zero, List.set_cons_succ])
    refine wpAnyH_ready (rs := [3]) (by kernel_rfl) (by simp) ?_
    refine AllReadyH.cons rfl (fun K1 hK1 => ?_) AllReadyH.nil
    go_simp
    refine hK1.out _ _ ((HY.out.1.alloc _).cell 0 _ rfl) (fun hS2 => ?_)
    clear hK1 K1 hS
    (try simp only [Act.put, List.getElem_toArray, List.getElem_cons_succ, List.getElem_cons_zero, List.setIfInBounds_toArray, List.set_cons_zero, List.set_cons_succ])
    have HZ : Hid (Below w.heap.size w (W.drew.alloc (.cells #[.int .i64 63] 3)) ∧ (W.drew.alloc (.cells #[.int .i64 63] 3)).cell? ⟨W.heap.size, 0, none⟩ = some (.int .i64 63)) := ⟨HY.out.2.alloc HY.out.2.size _, (Box.new 3 W.drew _).cell 0 _ rfl⟩
    refine wpAnyH_ready (rs := [4]) (by kernel_rfl) (by simp) ?_
    refine AllReadyH.cons rfl (fun K1 hK1 => ?_) AllReadyH.nil
    go_simp
    refine (bits_top _ _ _ HZ.out.2).mono ?_
    rintro e w2 ⟨rfl, hw2⟩
    rw [hw2]
    clear hw2
    refine hK1.out _ _ hS2 (fun hS3 => ?_)
    clear hK1 K1 hS2
    (try simp only [Act.put, List.getElem_toArray, List.getElem_cons_succ, List.getElem_cons_zero, List.setIfInBounds_toArray, List.set_cons_zero, List.set_cons_succ])
    refine wpAnyH_take (i := 5) (v := ?_) rfl (by kernel_rfl) (by kernel_rfl) (by kernel_rfl) (fun _ _ _ h => h) (Or.inl ⟨by kernel_rfl, ?_⟩) hS3 ?_
    rotate_left
    · intro w hSw; (try dsimp only at hSw); go_simp; try (with_reducible rfl)
    (try simp only [Act.put, List.getElem_toArray, List.getElem_cons_succ, List.getElem_cons_zero, List.setIfInBounds_toArray, List.set_cons_zero, List.set_cons_succ])
    refine wpAnyH_take (i := 6) (v := ?_) rfl (by kernel_rfl) (by kernel_rfl) (by kernel_rfl) (fun _ _ _ h => h) (Or.inl ⟨by kernel_rfl, ?_⟩) hS3 ?_
    rotate_left
    · intro w hSw; (try dsimp only at hSw); go_simp; try (with_reducible rfl)
    (try simp only [Act.put, List.getElem_toArray, List.getElem_cons_succ, List.getElem_cons_zero, List.setIfInBounds_toArray, List.set_cons_zero, List.set_cons_succ])
    refine wpAnyH_done (by kernel_rfl) ?_ _
    clear hS3
    go_wp2_with fail
    go_ret
    exact ⟨rfl, HZ.out.1⟩
theorem place_any (x c v : Nat) (i : Bool) (hx : x < 18446744073709551616) (hc : c < 64) (w : World) : Calls Tryd.prog 40 #[.int .u64 (x : Int), .agg (trapC c v i)] w fun e w' => e = .returned (.int .u64 (placeN x c i : Nat)) ∧ Below w.heap.size w w' := by
  have HX : Hid (Box 36 (w.alloc (.cells (trapC c v i) 36)) w.heap.size (trapC c v i) ∧ Below w.heap.size w (w.alloc (.cells (trapC c v i) 36))) := trap_new w c v i
  have hw := wrap_c c hc
  have hlow := andNot_low x hx
  have hbit : ∀ V, Calls Tryd.prog 23 #[.int .u64 (x : Int), .int .i64 0] V fun e w' => e = .returned (.bool (bitB x 0)) ∧ Below V.heap.size V w' := fun V => bit_all x 0 hx V V (Below.refl _ _)
  have HL : Hid (lowN x < 18446744073709551616 ∧ c < 64) := ⟨lowN_lt x hx, hc⟩
  unfold placeN
  cases i
  · rw [if_neg (by simp)]
    clear hc hx
    go_enter Tryd.func40, Tryd.ntmps40
    go_upto_region 1 with fail
    generalize (w.alloc (.cells (trapC c v false) 36)) = W at *
    have c2 : W.cell? ⟨w.heap.size, 2, none⟩ = some (.bool false) := HX.out.1.cell 2 _ rfl
    go_wp2_with fail
    go_ret
    exact ⟨rfl, HX.out.2⟩
  · generalize bitB x 0 = bt at *
    cases bt
    · rw [if_neg (by simp)]
      clear hc hx
      go_enter Tryd.func40, Tryd.ntmps40
      go_upto_region 1 with fail
      generalize (w.alloc (.cells (trapC c v true) 36)) = W at *
      have c2 : W.cell? ⟨w.heap.size, 2, none⟩ = some (.bool true) := HX.out.1.cell 2 _ rfl
      go_wp2_with fail
      refine (hbit _).mono ?_
      rintro e w1 ⟨rfl, hb1⟩
      go_wp2_with fail
      go_ret
      exact ⟨rfl, HX.out.2.trans (hb1.mono HX.out.2.size)⟩
    · rw [if_pos (by simp)]
      clear hc hx
      go_enter Tryd.func40, Tryd.ntmps40
      go_upto_region 1 with fail
      generalize (w.alloc (.cells (trapC c v true) 36)) = W at *
      have c2 : W.cell? ⟨w.heap.size, 2, none⟩ = some (.bool true) := HX.out.1.cell 2 _ rfl
      go_wp2_with fail
      refine (hbit _).mono ?_
      rintro e w1 ⟨rfl, hb1⟩
      have X1 : Hid (Box 36 w1 w.heap.size (trapC c v true) ∧ Below w.heap.size w w1) := ⟨HX.out.1.step hb1, HX.out.2.trans (hb1.mono HX.out.2.size)⟩
      have d0 : w1.cell? ⟨w.heap.size, 0, none⟩ = some (.int .i64 (c : Int)) := X1.out.1.cell 0 _ rfl
      clear hb1 c2
      go_wp2_with fail
      go_ret
      exact ⟨ret_int (by have := HL.out; simp [IntKind.wrap, IntKind.signed, IntKind.bits]; try omega), X1.out.2⟩
theorem deleg_any (m : Int) (K : Nat → Nat) (c v : Nat) (i : Bool) (b : Nat) (hK : Ok K) (w : World) (hB : Box 29 w b (fileC m K)) : Calls Tryd.prog 12 #[.pointer (some ⟨b, 0, none⟩), .agg (trapC c v i)] w fun e w' => e = .returned (.bool (delB m K c i)) ∧ Below w.heap.size w w' := by
  have HX : Hid (Box 36 (w.alloc (.cells (trapC c v i) 36)) w.heap.size (trapC c v i) ∧ Below w.heap.size w (w.alloc (.cells (trapC c v i) 36))) := trap_new w c v i
  have HB : Hid (Box 29 w b (fileC m K)) := hB
  have hb4 : ∀ V, Calls Tryd.prog 23 #[.int .u64 (K 4 : Nat), .int .i64 (c : Int)] V fun e w' => e = .returned (.bool (bitB (K 4) c)) ∧ Below V.heap.size V w' := fun V => bit_all (K 4) c (hK _) V V (Below.refl _ _)
  have hb3 : ∀ V, Calls Tryd.prog 23 #[.int .u64 (K 3 : Nat), .int .i64 (c : Int)] V fun e w' => e = .returned (.bool (bitB (K 3) c)) ∧ Below V.heap.size V w' := fun V => bit_all (K 3) c (hK _) V V (Below.refl _ _)
  clear hB hK
  unfold delB
  cases i
  · rw [if_neg (by decide)]
    generalize bitB (K 3) c = bt at *
    by_cases hm : m < 3
    · rw [decide_eq_true hm, Bool.true_and]
      clear hb4
      go_enter Tryd.func12, Tryd.ntmps12
      go_upto_region 1 with fail
      generalize (w.alloc (.cells (trapC c v false) 36)) = W at *
      have hB1 : Hid (Box 29 W b (fileC m K)) := HB.out.step HX.out.2
      have c0 : W.cell? ⟨w.heap.size, 0, none⟩ = some (.int .i64 (c : Int)) := HX.out.1.cell 0 _ rfl
      have c2 : W.cell? ⟨w.heap.size, 2, none⟩ = some (.bool false) := HX.out.1.cell 2 _ rfl
      have f0 : W.cell? ⟨b, 0, none⟩ = some (.int .i64 m) := hB1.out.cell 0 _ rfl
      have f1 : W.cell? ⟨b, 2, none⟩ = some (.int .u64 (K 3 : Nat)) := hB1.out.cell 2 _ rfl
      go_upto_region 3 with fail
      have HY : Hid (Box 36 W.drew w.heap.size (trapC c v false) ∧ Box 29 W.drew b (fileC m K) ∧ Below w.heap.size w W.drew) := ⟨HX.out.1.step (below_drew1 _), hB1.out.step (below_drew1 _), HX.out.2.trans ((below_drew1 _).mono HX.out.2.size)⟩
      clear c0 c2 f0 f1
      refine wp_region_held_drew (S := fun V => V.cell? ⟨w.heap.size, 0, none⟩ = some (.int .i64 (c : Int)) ∧ V.cell? ⟨b, 0, none⟩ = some (.int .i64 m) ∧ V.cell? ⟨b, 2, none⟩ = some (.int .u64 (K 3 : Nat))) (by kernel_rfl) ⟨HY.out.1.cell 0 _ rfl, HY.out.2.1.cell 0 _ rfl, HY.out.2.1.cell 2 _ rfl⟩ ?_
      intro hS
      refine wpAnyH_take (i := 0) (v := ?_) rfl (by kernel_rfl) (by kernel_rfl) (by kernel_rfl) (fun _ _ _ h => h) (Or.inl ⟨by kernel_rfl, ?_⟩) hS ?_
      rotate_left
      · intro w hSw; (try dsimp only at hSw); go_simp; try (with_reducible rfl)
      (try simp only [Act.put, List.getElem_toArray, List.getElem_cons_succ, List.getElem_cons_zero, List.setIfInBounds_toArray, List.set_cons_zero, List.set_cons_succ])
      refine wpAnyH_take (i := 1) (v := ?_) rfl (by kernel_rfl) (by kernel_rfl) (by kernel_rfl) (fun _ _ _ h => h) (Or.inl ⟨by kernel_rfl, ?_⟩) hS ?_
      rotate_left
      · intro w hSw; (try dsimp only at hSw); go_simp; try (with_reducible rfl)
      (try simp only [Act.put, List.getElem_toArray, List.getElem_cons_succ, List.getElem_cons_zero, List.setIfInBounds_toArray, List.set_cons_zero, List.set_cons_succ])
      refine wpAnyH_take (i := 2) (v := ?_) rfl (by kernel_rfl) (by kernel_rfl) (by kernel_rfl) (fun _ _ _ h => h) (Or.inl ⟨by kernel_rfl, ?_⟩) hS ?_
      rotate_left
      · intro w hSw; (try dsimp only at hSw); go_simp; try (with_reducible rfl)
      (try simp only [Act.put, List.getElem_toArray, List.getElem_cons_succ, List.getElem_cons_zero, List.setIfInBounds_toArray, List.set_cons_zero, List.set_cons_succ])
      refine wpAnyH_take (i := 3) (v := ?_) rfl (by kernel_rfl) (by kernel_rfl) (by kernel_rfl) (fun _ _ _ h => h) (Or.inl ⟨by kernel_rfl, ?_⟩) hS ?_
      rotate_left
      · intro w hSw; (try dsimp only at hSw); go_simp; try (with_reducible rfl)
      (try simp only [Act.put, List.getElem_toArray, List.getElem_cons_succ, List.getElem_cons_zero, List.setIfInBounds_toArray, List.set_cons_zero, List.set_cons_succ])
      refine wpAnyH_take (i := 4) (v := ?_) rfl (by kernel_rfl) (by kernel_rfl) (by kernel_rfl) (fun _ _ _ h => h) (Or.inl ⟨by kernel_rfl, ?_⟩) hS ?_
      rotate_left
      · intro w hSw; (try dsimp only at hSw); go_simp; try (with_reducible rfl)
      (try simp only [Act.put, List.getElem_toArray, List.getElem_cons_succ, List.getElem_cons_zero, List.setIfInBounds_toArray, List.set_cons_zero, List.set_cons_succ])
      refine wpAnyH_take (i := 5) (v := ?_) rfl (by kernel_rfl) (by kernel_rfl) (by kernel_rfl) (fun _ _ _ h => h) (Or.inl ⟨by kernel_rfl, ?_⟩) hS ?_
      rotate_left
      · intro w hSw; (try dsimp only at hSw); go_simp; try (with_reducible rfl)
      (try simp only [Act.put, List.getElem_toArray, List.getElem_cons_succ, List.getElem_cons_zero, List.setIfInBounds_toArray, List.set_cons_zero, List.set_cons_succ])
      refine wpAnyH_take (i := 6) (v := ?_) rfl (by kernel_rfl) (by kernel_rfl) (by kernel_rfl) (fun _ _ _ h => h) (Or.inl ⟨by kernel_rfl, ?_⟩) hS ?_
      rotate_left
      · intro w hSw; (try dsimp only at hSw); go_simp; try (with_reducible rfl)
      (try simp only [Act.put, List.getElem_toArray, List.getElem_cons_succ, List.getElem_cons_zero, List.setIfInBounds_toArray, List.set_cons_zero, List.set_cons_succ])
      refine wpAnyH_take (i := 7) (v := ?_) rfl (by kernel_rfl) (by kernel_rfl) (by kernel_rfl) (fun _ _ _ h => h) (Or.inl ⟨by kernel_rfl, ?_⟩) hS ?_
      rotate_left
      · intro w hSw; (try dsimp only at hSw); go_simp; try (with_reducible rfl)
      (try simp only [Act.put, List.getElem_toArray, List.getElem_cons_succ, List.getElem_cons_zero, List.setIfInBounds_toArray, List.set_cons_zero, List.set_cons_succ])
      refine wpAnyH_take (i := 8) (v := ?_) rfl (by kernel_rfl) (by kernel_rfl) (by kernel_rfl) (fun _ _ _ h => h) (Or.inl ⟨by kernel_rfl, ?_⟩) hS ?_
      rotate_left
      · intro w hSw; (try dsimp only at hSw); go_simp; try (with_reducible rfl)
      (try simp only [Act.put, List.getElem_toArray, List.getElem_cons_succ, List.getElem_cons_zero, List.setIfInBounds_toArray, List.set_cons_zero, List.set_cons_succ])
      refine wpAnyH_take (i := 9) (v := ?_) rfl (by kernel_rfl) (by kernel_rfl) (by kernel_rfl) (fun _ _ _ h => h) (Or.inl ⟨by kernel_rfl, ?_⟩) hS ?_
      rotate_left
      · intro w hSw; (try dsimp only at hSw); go_simp; try (with_reducible rfl)
      (try simp only [Act.put, List.getElem_toArray, List.getElem_cons_succ, List.getElem_cons_zero, List.setIfInBounds_toArray, List.set_cons_zero, List.set_cons_succ])
      refine wpAnyH_take (i := 10) (v := ?_) rfl (by kernel_rfl) (by kernel_rfl) (by kernel_rfl) (fun _ _ _ h => h) (Or.inl ⟨by kernel_rfl, ?_⟩) hS ?_
      rotate_left
      · intro w hSw; (try dsimp only at hSw); go_simp; try (with_reducible rfl)
      (try simp only [Act.put, List.getElem_toArray, List.getElem_cons_succ, List.getElem_cons_zero, List.setIfInBounds_toArray, List.set_cons_zero, List.set_cons_succ])
      refine wpAnyH_take (i := 11) (v := ?_) rfl (by kernel_rfl) (by kernel_rfl) (by kernel_rfl) (fun _ _ _ h => h) (Or.inl ⟨by kernel_rfl, ?_⟩) hS ?_
      rotate_left
      · intro w hSw; (try dsimp only at hSw); go_simp; try (with_reducible rfl)
      (try simp only [Act.put, List.getElem_toArray, List.getElem_cons_succ, List.getElem_cons_zero, List.setIfInBounds_toArray, List.set_cons_zero, List.set_cons_succ])
      refine wpAnyH_ready (rs := [12]) (by kernel_rfl) (by simp) ?_
      refine AllReadyH.cons rfl (fun K1 hK1 => ?_) AllReadyH.nil
      go_simp
      refine (hb3 _).mono ?_
      rintro e w1 ⟨rfl, hb1⟩
      have X1 : Hid (Box 36 w1 w.heap.size (trapC c v false) ∧ Box 29 w1 b (fileC m K) ∧ Below w.heap.size w w1) := ⟨HY.out.1.step hb1, HY.out.2.1.step hb1, HY.out.2.2.trans (hb1.mono HY.out.2.2.size)⟩
      clear hb1
      refine hK1.out _ _ ⟨X1.out.1.cell 0 _ rfl, X1.out.2.1.cell 0 _ rfl, X1.out.2.1.cell 2 _ rfl⟩ (fun hS2 => ?_)
      clear hK1 K1 hS
      (try simp only [Act.put, List.getElem_toArray, List.getElem_cons_succ, List.getElem_cons_zero, List.setIfInBounds_toArray, List.set_cons_zero, List.set_cons_succ])
      refine wpAnyH_take (i := 13) (v := ?_) rfl (by kernel_rfl) (by kernel_rfl) (by kernel_rfl) (fun _ _ _ h => h) (Or.inl ⟨by kernel_rfl, ?_⟩) hS2 ?_
      rotate_left
      · intro w hSw; (try dsimp only at hSw); go_simp; try (with_reducible rfl)
      (try simp only [Act.put, List.getElem_toArray, List.getElem_cons_succ, List.getElem_cons_zero, List.setIfInBounds_toArray, List.set_cons_zero, List.set_cons_succ])
      refine wpAnyH_take (i := 14) (v := ?_) rfl (by kernel_rfl) (by kernel_rfl) (by kernel_rfl) (fun _ _ _ h => h) (Or.inl ⟨by kernel_rfl, ?_⟩) hS2 ?_
      rotate_left
      · intro w hSw; (try dsimp only at hSw); go_simp; try (with_reducible rfl)
      (try simp only [Act.put, List.getElem_toArray, List.getElem_cons_succ, List.getElem_cons_zero, List.setIfInBounds_toArray, List.set_cons_zero, List.set_cons_succ])
      refine wpAnyH_done (by kernel_rfl) ?_ _
      clear hS2
      go_wp2_with fail
      go_ret
      exact ⟨rfl, X1.out.2.2⟩
    · rw [decide_eq_false hm, Bool.false_and]
      clear hb3 hb4
      go_enter Tryd.func12, Tryd.ntmps12
      go_upto_region 1 with fail
      generalize (w.alloc (.cells (trapC c v false) 36)) = W at *
      have hB1 : Hid (Box 29 W b (fileC m K)) := HB.out.step HX.out.2
      have c0 : W.cell? ⟨w.heap.size, 0, none⟩ = some (.int .i64 (c : Int)) := HX.out.1.cell 0 _ rfl
      have c2 : W.cell? ⟨w.heap.size, 2, none⟩ = some (.bool false) := HX.out.1.cell 2 _ rfl
      have f0 : W.cell? ⟨b, 0, none⟩ = some (.int .i64 m) := hB1.out.cell 0 _ rfl
      have f1 : W.cell? ⟨b, 2, none⟩ = some (.int .u64 (K 3 : Nat)) := hB1.out.cell 2 _ rfl
      go_upto_region 3 with fail
      have HY : Hid (Box 36 W.drew w.heap.size (trapC c v false) ∧ Box 29 W.drew b (fileC m K) ∧ Below w.heap.size w W.drew) := ⟨HX.out.1.step (below_drew1 _), hB1.out.step (below_drew1 _), HX.out.2.trans ((below_drew1 _).mono HX.out.2.size)⟩
      clear c0 c2 f0 f1
      refine wp_region_held_drew (S := fun V => V.cell? ⟨w.heap.size, 0, none⟩ = some (.int .i64 (c : Int)) ∧ V.cell? ⟨b, 0, none⟩ = some (.int .i64 m) ∧ V.cell? ⟨b, 2, none⟩ = some (.int .u64 (K 3 : Nat))) (by kernel_rfl) ⟨HY.out.1.cell 0 _ rfl, HY.out.2.1.cell 0 _ rfl, HY.out.2.1.cell 2 _ rfl⟩ ?_
      intro hS
      refine wpAnyH_take (i := 0) (v := ?_) rfl (by kernel_rfl) (by kernel_rfl) (by kernel_rfl) (fun _ _ _ h => h) (Or.inl ⟨by kernel_rfl, ?_⟩) hS ?_
      rotate_left
      · intro w hSw; (try dsimp only at hSw); go_simp; try (with_reducible rfl)
      (try simp only [Act.put, List.getElem_toArray, List.getElem_cons_succ, List.getElem_cons_zero, List.setIfInBounds_toArray, List.set_cons_zero, List.set_cons_succ])
      refine wpAnyH_take (i := 1) (v := ?_) rfl (by kernel_rfl) (by kernel_rfl) (by kernel_rfl) (fun _ _ _ h => h) (Or.inl ⟨by kernel_rfl, ?_⟩) hS ?_
      rotate_left
      · intro w hSw; (try dsimp only at hSw); go_simp; try (with_reducible rfl)
      (try simp only [Act.put, List.getElem_toArray, List.getElem_cons_succ, List.getElem_cons_zero, List.setIfInBounds_toArray, List.set_cons_zero, List.set_cons_succ])
      refine wpAnyH_take (i := 2) (v := ?_) rfl (by kernel_rfl) (by kernel_rfl) (by kernel_rfl) (fun _ _ _ h => h) (Or.inl ⟨by kernel_rfl, ?_⟩) hS ?_
      rotate_left
      · intro w hSw; (try dsimp only at hSw); go_simp; try (with_reducible rfl)
      (try simp only [Act.put, List.getElem_toArray, List.getElem_cons_succ, List.getElem_cons_zero, List.setIfInBounds_toArray, List.set_cons_zero, List.set_cons_succ])
      refine wpAnyH_take (i := 3) (v := ?_) rfl (by kernel_rfl) (by kernel_rfl) (by kernel_rfl) (fun _ _ _ h => h) (Or.inl ⟨by kernel_rfl, ?_⟩) hS ?_
      rotate_left
      · intro w hSw; (try dsimp only at hSw); go_simp; try (with_reducible rfl)
      (try simp only [Act.put, List.getElem_toArray, List.getElem_cons_succ, List.getElem_cons_zero, List.setIfInBounds_toArray, List.set_cons_zero, List.set_cons_succ])
      refine wpAnyH_take (i := 4) (v := ?_) rfl (by kernel_rfl) (by kernel_rfl) (by kernel_rfl) (fun _ _ _ h => h) (Or.inl ⟨by kernel_rfl, ?_⟩) hS ?_
      rotate_left
      · intro w hSw; (try dsimp only at hSw); go_simp; try (with_reducible rfl)
      (try simp only [Act.put, List.getElem_toArray, List.getElem_cons_succ, List.getElem_cons_zero, List.setIfInBounds_toArray, List.set_cons_zero, List.set_cons_succ])
      refine wpAnyH_take (i := 5) (v := ?_) rfl (by kernel_rfl) (by kernel_rfl) (by kernel_rfl) (fun _ _ _ h => h) (Or.inl ⟨by kernel_rfl, ?_⟩) hS ?_
      rotate_left
      · intro w hSw; (try dsimp only at hSw); go_simp; try (with_reducible rfl)
      (try simp only [Act.put, List.getElem_toArray, List.getElem_cons_succ, List.getElem_cons_zero, List.setIfInBounds_toArray, List.set_cons_zero, List.set_cons_succ])
      refine wpAnyH_take (i := 6) (v := undef) rfl (by kernel_rfl) (by kernel_rfl) (by kernel_rfl) (fun _ _ _ h => h) (Or.inr ⟨by kernel_rfl, rfl⟩) hS ?_
      (try simp only [Act.put, List.getElem_toArray, List.getElem_cons_succ, List.getElem_cons_zero, List.setIfInBounds_toArray, List.set_cons_zero, List.set_cons_succ])
      refine wpAnyH_take (i := 7) (v := undef) rfl (by kernel_rfl) (by kernel_rfl) (by kernel_rfl) (fun _ _ _ h => h) (Or.inr ⟨by kernel_rfl, rfl⟩) hS ?_
      (try simp only [Act.put, List.getElem_toArray, List.getElem_cons_succ, List.getElem_cons_zero, List.setIfInBounds_toArray, List.set_cons_zero, List.set_cons_succ])
      refine wpAnyH_take (i := 8) (v := undef) rfl (by kernel_rfl) (by kernel_rfl) (by kernel_rfl) (fun _ _ _ h => h) (Or.inr ⟨by kernel_rfl, rfl⟩) hS ?_
      (try simp only [Act.put, List.getElem_toArray, List.getElem_cons_succ, List.getElem_cons_zero, List.setIfInBounds_toArray, List.set_cons_zero, List.set_cons_succ])
      refine wpAnyH_take (i := 9) (v := undef) rfl (by kernel_rfl) (by kernel_rfl) (by kernel_rfl) (fun _ _ _ h => h) (Or.inr ⟨by kernel_rfl, rfl⟩) hS ?_
      (try simp only [Act.put, List.getElem_toArray, List.getElem_cons_succ, List.getElem_cons_zero, List.setIfInBounds_toArray, List.set_cons_zero, List.set_cons_succ])
      refine wpAnyH_take (i := 10) (v := undef) rfl (by kernel_rfl) (by kernel_rfl) (by kernel_rfl) (fun _ _ _ h => h) (Or.inr ⟨by kernel_rfl, rfl⟩) hS ?_
      (try simp only [Act.put, List.getElem_toArray, List.getElem_cons_succ, List.getElem_cons_zero, List.setIfInBounds_toArray, List.set_cons_zero, List.set_cons_succ])
      refine wpAnyH_take (i := 11) (v := undef) rfl (by kernel_rfl) (by kernel_rfl) (by kernel_rfl) (fun _ _ _ h => h) (Or.inr ⟨by kernel_rfl, rfl⟩) hS ?_
      (try simp only [Act.put, List.getElem_toArray, List.getElem_cons_succ, List.getElem_cons_zero, List.setIfInBounds_toArray, List.set_cons_zero, List.set_cons_succ])
      refine wpAnyH_take (i := 12) (v := undef) rfl (by kernel_rfl) (by kernel_rfl) (by kernel_rfl) (fun _ _ _ h => h) (Or.inr ⟨by kernel_rfl, rfl⟩) hS ?_
      (try simp only [Act.put, List.getElem_toArray, List.getElem_cons_succ, List.getElem_cons_zero, List.setIfInBounds_toArray, List.set_cons_zero, List.set_cons_succ])
      refine wpAnyH_take (i := 13) (v := ?_) rfl (by kernel_rfl) (by kernel_rfl) (by kernel_rfl) (fun _ _ _ h => h) (Or.inl ⟨by kernel_rfl, ?_⟩) hS ?_
      rotate_left
      · intro w hSw; (try dsimp only at hSw); go_simp; try (with_reducible rfl)
      (try simp only [Act.put, List.getElem_toArray, List.getElem_cons_succ, List.getElem_cons_zero, List.setIfInBounds_toArray, List.set_cons_zero, List.set_cons_succ])
      refine wpAnyH_take (i := 14) (v := ?_) rfl (by kernel_rfl) (by kernel_rfl) (by kernel_rfl) (fun _ _ _ h => h) (Or.inl ⟨by kernel_rfl, ?_⟩) hS ?_
      rotate_left
      · intro w hSw; (try dsimp only at hSw); go_simp; try (with_reducible rfl)
      (try simp only [Act.put, List.getElem_toArray, List.getElem_cons_succ, List.getElem_cons_zero, List.setIfInBounds_toArray, List.set_cons_zero, List.set_cons_succ])
      refine wpAnyH_done (by kernel_rfl) ?_ _
      clear hS
      go_wp2_with fail
      go_ret
      exact ⟨rfl, HY.out.2.2⟩
  · rw [if_pos rfl]
    generalize bitB (K 4) c = bt at *
    by_cases hm : m < 3
    · rw [decide_eq_true hm, Bool.true_and]
      clear hb3
      go_enter Tryd.func12, Tryd.ntmps12
      go_upto_region 1 with fail
      generalize (w.alloc (.cells (trapC c v true) 36)) = W at *
      have hB1 : Hid (Box 29 W b (fileC m K)) := HB.out.step HX.out.2
      have c0 : W.cell? ⟨w.heap.size, 0, none⟩ = some (.int .i64 (c : Int)) := HX.out.1.cell 0 _ rfl
      have c2 : W.cell? ⟨w.heap.size, 2, none⟩ = some (.bool true) := HX.out.1.cell 2 _ rfl
      have f0 : W.cell? ⟨b, 0, none⟩ = some (.int .i64 m) := hB1.out.cell 0 _ rfl
      have f1 : W.cell? ⟨b, 3, none⟩ = some (.int .u64 (K 4 : Nat)) := hB1.out.cell 3 _ rfl
      go_upto_region 2 with fail
      have HY : Hid (Box 36 W.drew w.heap.size (trapC c v true) ∧ Box 29 W.drew b (fileC m K) ∧ Below w.heap.size w W.drew) := ⟨HX.out.1.step (below_drew1 _), hB1.out.step (below_drew1 _), HX.out.2.trans ((below_drew1 _).mono HX.out.2.size)⟩
      clear c0 c2 f0 f1
      refine wp_region_held_drew (S := fun V => V.cell? ⟨w.heap.size, 0, none⟩ = some (.int .i64 (c : Int)) ∧ V.cell? ⟨b, 0, none⟩ = some (.int .i64 m) ∧ V.cell? ⟨b, 3, none⟩ = some (.int .u64 (K 4 : Nat))) (by kernel_rfl) ⟨HY.out.1.cell 0 _ rfl, HY.out.2.1.cell 0 _ rfl, HY.out.2.1.cell 3 _ rfl⟩ ?_
      intro hS
      refine wpAnyH_take (i := 0) (v := ?_) rfl (by kernel_rfl) (by kernel_rfl) (by kernel_rfl) (fun _ _ _ h => h) (Or.inl ⟨by kernel_rfl, ?_⟩) hS ?_
      rotate_left
      · intro w hSw; (try dsimp only at hSw); go_simp; try (with_reducible rfl)
      (try simp only [Act.put, List.getElem_toArray, List.getElem_cons_succ, List.getElem_cons_zero, List.setIfInBounds_toArray, List.set_cons_zero, List.set_cons_succ])
      refine wpAnyH_take (i := 1) (v := ?_) rfl (by kernel_rfl) (by kernel_rfl) (by kernel_rfl) (fun _ _ _ h => h) (Or.inl ⟨by kernel_rfl, ?_⟩) hS ?_
      rotate_left
      · intro w hSw; (try dsimp only at hSw); go_simp; try (with_reducible rfl)
      (try simp only [Act.put, List.getElem_toArray, List.getElem_cons_succ, List.getElem_cons_zero, List.setIfInBounds_toArray, List.set_cons_zero, List.set_cons_succ])
      refine wpAnyH_take (i := 2) (v := ?_) rfl (by kernel_rfl) (by kernel_rfl) (by kernel_rfl) (fun _ _ _ h => h) (Or.inl ⟨by kernel_rfl, ?_⟩) hS ?_
      rotate_left
      · intro w hSw; (try dsimp only at hSw); go_simp; try (with_reducible rfl)
      (try simp only [Act.put, List.getElem_toArray, List.getElem_cons_succ, List.getElem_cons_zero, List.setIfInBounds_toArray, List.set_cons_zero, List.set_cons_succ])
      refine wpAnyH_take (i := 3) (v := ?_) rfl (by kernel_rfl) (by kernel_rfl) (by kernel_rfl) (fun _ _ _ h => h) (Or.inl ⟨by kernel_rfl, ?_⟩) hS ?_
      rotate_left
      · intro w hSw; (try dsimp only at hSw); go_simp; try (with_reducible rfl)
      (try simp only [Act.put, List.getElem_toArray, List.getElem_cons_succ, List.getElem_cons_zero, List.setIfInBounds_toArray, List.set_cons_zero, List.set_cons_succ])
      refine wpAnyH_take (i := 4) (v := ?_) rfl (by kernel_rfl) (by kernel_rfl) (by kernel_rfl) (fun _ _ _ h => h) (Or.inl ⟨by kernel_rfl, ?_⟩) hS ?_
      rotate_left
      · intro w hSw; (try dsimp only at hSw); go_simp; try (with_reducible rfl)
      (try simp only [Act.put, List.getElem_toArray, List.getElem_cons_succ, List.getElem_cons_zero, List.setIfInBounds_toArray, List.set_cons_zero, List.set_cons_succ])
      refine wpAnyH_take (i := 5) (v := ?_) rfl (by kernel_rfl) (by kernel_rfl) (by kernel_rfl) (fun _ _ _ h => h) (Or.inl ⟨by kernel_rfl, ?_⟩) hS ?_
      rotate_left
      · intro w hSw; (try dsimp only at hSw); go_simp; try (with_reducible rfl)
      (try simp only [Act.put, List.getElem_toArray, List.getElem_cons_succ, List.getElem_cons_zero, List.setIfInBounds_toArray, List.set_cons_zero, List.set_cons_succ])
      refine wpAnyH_take (i := 6) (v := ?_) rfl (by kernel_rfl) (by kernel_rfl) (by kernel_rfl) (fun _ _ _ h => h) (Or.inl ⟨by kernel_rfl, ?_⟩) hS ?_
      rotate_left
      · intro w hSw; (try dsimp only at hSw); go_simp; try (with_reducible rfl)
      (try simp only [Act.put, List.getElem_toArray, List.getElem_cons_succ, List.getElem_cons_zero, List.setIfInBounds_toArray, List.set_cons_zero, List.set_cons_succ])
      refine wpAnyH_take (i := 7) (v := ?_) rfl (by kernel_rfl) (by kernel_rfl) (by kernel_rfl) (fun _ _ _ h => h) (Or.inl ⟨by kernel_rfl, ?_⟩) hS ?_
      rotate_left
      · intro w hSw; (try dsimp only at hSw); go_simp; try (with_reducible rfl)
      (try simp only [Act.put, List.getElem_toArray, List.getElem_cons_succ, List.getElem_cons_zero, List.setIfInBounds_toArray, List.set_cons_zero, List.set_cons_succ])
      refine wpAnyH_take (i := 8) (v := ?_) rfl (by kernel_rfl) (by kernel_rfl) (by kernel_rfl) (fun _ _ _ h => h) (Or.inl ⟨by kernel_rfl, ?_⟩) hS ?_
      rotate_left
      · intro w hSw; (try dsimp only at hSw); go_simp; try (with_reducible rfl)
      (try simp only [Act.put, List.getElem_toArray, List.getElem_cons_succ, List.getElem_cons_zero, List.setIfInBounds_toArray, List.set_cons_zero, List.set_cons_succ])
      refine wpAnyH_take (i := 9) (v := ?_) rfl (by kernel_rfl) (by kernel_rfl) (by kernel_rfl) (fun _ _ _ h => h) (Or.inl ⟨by kernel_rfl, ?_⟩) hS ?_
      rotate_left
      · intro w hSw; (try dsimp only at hSw); go_simp; try (with_reducible rfl)
      (try simp only [Act.put, List.getElem_toArray, List.getElem_cons_succ, List.getElem_cons_zero, List.setIfInBounds_toArray, List.set_cons_zero, List.set_cons_succ])
      refine wpAnyH_take (i := 10) (v := ?_) rfl (by kernel_rfl) (by kernel_rfl) (by kernel_rfl) (fun _ _ _ h => h) (Or.inl ⟨by kernel_rfl, ?_⟩) hS ?_
      rotate_left
      · intro w hSw; (try dsimp only at hSw); go_simp; try (with_reducible rfl)
      (try simp only [Act.put, List.getElem_toArray, List.getElem_cons_succ, List.getElem_cons_zero, List.setIfInBounds_toArray, List.set_cons_zero, List.set_cons_succ])
      refine wpAnyH_take (i := 11) (v := ?_) rfl (by kernel_rfl) (by kernel_rfl) (by kernel_rfl) (fun _ _ _ h => h) (Or.inl ⟨by kernel_rfl, ?_⟩) hS ?_
      rotate_left
      · intro w hSw; (try dsimp only at hSw); go_simp; try (with_reducible rfl)
      (try simp only [Act.put, List.getElem_toArray, List.getElem_cons_succ, List.getElem_cons_zero, List.setIfInBounds_toArray, List.set_cons_zero, List.set_cons_succ])
      refine wpAnyH_ready (rs := [12]) (by kernel_rfl) (by simp) ?_
      refine AllReadyH.cons rfl (fun K1 hK1 => ?_) AllReadyH.nil
      go_simp
      refine (hb4 _).mono ?_
      rintro e w1 ⟨rfl, hb1⟩
      have X1 : Hid (Box 36 w1 w.heap.size (trapC c v true) ∧ Box 29 w1 b (fileC m K) ∧ Below w.heap.size w w1) := ⟨HY.out.1.step hb1, HY.out.2.1.step hb1, HY.out.2.2.trans (hb1.mono HY.out.2.2.size)⟩
      clear hb1
      refine hK1.out _ _ ⟨X1.out.1.cell 0 _ rfl, X1.out.2.1.cell 0 _ rfl, X1.out.2.1.cell 3 _ rfl⟩ (fun hS2 => ?_)
      clear hK1 K1 hS
      (try simp only [Act.put, List.getElem_toArray, List.getElem_cons_succ, List.getElem_cons_zero, List.setIfInBounds_toArray, List.set_cons_zero, List.set_cons_succ])
      refine wpAnyH_take (i := 13) (v := ?_) rfl (by kernel_rfl) (by kernel_rfl) (by kernel_rfl) (fun _ _ _ h => h) (Or.inl ⟨by kernel_rfl, ?_⟩) hS2 ?_
      rotate_left
      · intro w hSw; (try dsimp only at hSw); go_simp; try (with_reducible rfl)
      (try simp only [Act.put, List.getElem_toArray, List.getElem_cons_succ, List.getElem_cons_zero, List.setIfInBounds_toArray, List.set_cons_zero, List.set_cons_succ])
      refine wpAnyH_take (i := 14) (v := ?_) rfl (by kernel_rfl) (by kernel_rfl) (by kernel_rfl) (fun _ _ _ h => h) (Or.inl ⟨by kernel_rfl, ?_⟩) hS2 ?_
      rotate_left
      · intro w hSw; (try dsimp only at hSw); go_simp; try (with_reducible rfl)
      (try simp only [Act.put, List.getElem_toArray, List.getElem_cons_succ, List.getElem_cons_zero, List.setIfInBounds_toArray, List.set_cons_zero, List.set_cons_succ])
      refine wpAnyH_done (by kernel_rfl) ?_ _
      clear hS2
      go_wp2_with fail
      go_ret
      exact ⟨rfl, X1.out.2.2⟩
    · rw [decide_eq_false hm, Bool.false_and]
      clear hb3 hb4
      go_enter Tryd.func12, Tryd.ntmps12
      go_upto_region 1 with fail
      generalize (w.alloc (.cells (trapC c v true) 36)) = W at *
      have hB1 : Hid (Box 29 W b (fileC m K)) := HB.out.step HX.out.2
      have c0 : W.cell? ⟨w.heap.size, 0, none⟩ = some (.int .i64 (c : Int)) := HX.out.1.cell 0 _ rfl
      have c2 : W.cell? ⟨w.heap.size, 2, none⟩ = some (.bool true) := HX.out.1.cell 2 _ rfl
      have f0 : W.cell? ⟨b, 0, none⟩ = some (.int .i64 m) := hB1.out.cell 0 _ rfl
      have f1 : W.cell? ⟨b, 3, none⟩ = some (.int .u64 (K 4 : Nat)) := hB1.out.cell 3 _ rfl
      go_upto_region 2 with fail
      have HY : Hid (Box 36 W.drew w.heap.size (trapC c v true) ∧ Box 29 W.drew b (fileC m K) ∧ Below w.heap.size w W.drew) := ⟨HX.out.1.step (below_drew1 _), hB1.out.step (below_drew1 _), HX.out.2.trans ((below_drew1 _).mono HX.out.2.size)⟩
      clear c0 c2 f0 f1
      refine wp_region_held_drew (S := fun V => V.cell? ⟨w.heap.size, 0, none⟩ = some (.int .i64 (c : Int)) ∧ V.cell? ⟨b, 0, none⟩ = some (.int .i64 m) ∧ V.cell? ⟨b, 3, none⟩ = some (.int .u64 (K 4 : Nat))) (by kernel_rfl) ⟨HY.out.1.cell 0 _ rfl, HY.out.2.1.cell 0 _ rfl, HY.out.2.1.cell 3 _ rfl⟩ ?_
      intro hS
      refine wpAnyH_take (i := 0) (v := ?_) rfl (by kernel_rfl) (by kernel_rfl) (by kernel_rfl) (fun _ _ _ h => h) (Or.inl ⟨by kernel_rfl, ?_⟩) hS ?_
      rotate_left
      · intro w hSw; (try dsimp only at hSw); go_simp; try (with_reducible rfl)
      (try simp only [Act.put, List.getElem_toArray, List.getElem_cons_succ, List.getElem_cons_zero, List.setIfInBounds_toArray, List.set_cons_zero, List.set_cons_succ])
      refine wpAnyH_take (i := 1) (v := ?_) rfl (by kernel_rfl) (by kernel_rfl) (by kernel_rfl) (fun _ _ _ h => h) (Or.inl ⟨by kernel_rfl, ?_⟩) hS ?_
      rotate_left
      · intro w hSw; (try dsimp only at hSw); go_simp; try (with_reducible rfl)
      (try simp only [Act.put, List.getElem_toArray, List.getElem_cons_succ, List.getElem_cons_zero, List.setIfInBounds_toArray, List.set_cons_zero, List.set_cons_succ])
      refine wpAnyH_take (i := 2) (v := ?_) rfl (by kernel_rfl) (by kernel_rfl) (by kernel_rfl) (fun _ _ _ h => h) (Or.inl ⟨by kernel_rfl, ?_⟩) hS ?_
      rotate_left
      · intro w hSw; (try dsimp only at hSw); go_simp; try (with_reducible rfl)
      (try simp only [Act.put, List.getElem_toArray, List.getElem_cons_succ, List.getElem_cons_zero, List.setIfInBounds_toArray, List.set_cons_zero, List.set_cons_succ])
      refine wpAnyH_take (i := 3) (v := ?_) rfl (by kernel_rfl) (by kernel_rfl) (by kernel_rfl) (fun _ _ _ h => h) (Or.inl ⟨by kernel_rfl, ?_⟩) hS ?_
      rotate_left
      · intro w hSw; (try dsimp only at hSw); go_simp; try (with_reducible rfl)
      (try simp only [Act.put, List.getElem_toArray, List.getElem_cons_succ, List.getElem_cons_zero, List.setIfInBounds_toArray, List.set_cons_zero, List.set_cons_succ])
      refine wpAnyH_take (i := 4) (v := ?_) rfl (by kernel_rfl) (by kernel_rfl) (by kernel_rfl) (fun _ _ _ h => h) (Or.inl ⟨by kernel_rfl, ?_⟩) hS ?_
      rotate_left
      · intro w hSw; (try dsimp only at hSw); go_simp; try (with_reducible rfl)
      (try simp only [Act.put, List.getElem_toArray, List.getElem_cons_succ, List.getElem_cons_zero, List.setIfInBounds_toArray, List.set_cons_zero, List.set_cons_succ])
      refine wpAnyH_take (i := 5) (v := ?_) rfl (by kernel_rfl) (by kernel_rfl) (by kernel_rfl) (fun _ _ _ h => h) (Or.inl ⟨by kernel_rfl, ?_⟩) hS ?_
      rotate_left
      · intro w hSw; (try dsimp only at hSw); go_simp; try (with_reducible rfl)
      (try simp only [Act.put, List.getElem_toArray, List.getElem_cons_succ, List.getElem_cons_zero, List.setIfInBounds_toArray, List.set_cons_zero, List.set_cons_succ])
      refine wpAnyH_take (i := 6) (v := undef) rfl (by kernel_rfl) (by kernel_rfl) (by kernel_rfl) (fun _ _ _ h => h) (Or.inr ⟨by kernel_rfl, rfl⟩) hS ?_
      (try simp only [Act.put, List.getElem_toArray, List.getElem_cons_succ, List.getElem_cons_zero, List.setIfInBounds_toArray, List.set_cons_zero, List.set_cons_succ])
      refine wpAnyH_take (i := 7) (v := undef) rfl (by kernel_rfl) (by kernel_rfl) (by kernel_rfl) (fun _ _ _ h => h) (Or.inr ⟨by kernel_rfl, rfl⟩) hS ?_
      (try simp only [Act.put, List.getElem_toArray, List.getElem_cons_succ, List.getElem_cons_zero, List.setIfInBounds_toArray, List.set_cons_zero, List.set_cons_succ])
      refine wpAnyH_take (i := 8) (v := undef) rfl (by kernel_rfl) (by kernel_rfl) (by kernel_rfl) (fun _ _ _ h => h) (Or.inr ⟨by kernel_rfl, rfl⟩) hS ?_
      (try simp only [Act.put, List.getElem_toArray, List.getElem_cons_succ, List.getElem_cons_zero, List.setIfInBounds_toArray, List.set_cons_zero, List.set_cons_succ])
      refine wpAnyH_take (i := 9) (v := undef) rfl (by kernel_rfl) (by kernel_rfl) (by kernel_rfl) (fun _ _ _ h => h) (Or.inr ⟨by kernel_rfl, rfl⟩) hS ?_
      (try simp only [Act.put, List.getElem_toArray, List.getElem_cons_succ, List.getElem_cons_zero, List.setIfInBounds_toArray, List.set_cons_zero, List.set_cons_succ])
      refine wpAnyH_take (i := 10) (v := undef) rfl (by kernel_rfl) (by kernel_rfl) (by kernel_rfl) (fun _ _ _ h => h) (Or.inr ⟨by kernel_rfl, rfl⟩) hS ?_
      (try simp only [Act.put, List.getElem_toArray, List.getElem_cons_succ, List.getElem_cons_zero, List.setIfInBounds_toArray, List.set_cons_zero, List.set_cons_succ])
      refine wpAnyH_take (i := 11) (v := undef) rfl (by kernel_rfl) (by kernel_rfl) (by kernel_rfl) (fun _ _ _ h => h) (Or.inr ⟨by kernel_rfl, rfl⟩) hS ?_
      (try simp only [Act.put, List.getElem_toArray, List.getElem_cons_succ, List.getElem_cons_zero, List.setIfInBounds_toArray, List.set_cons_zero, List.set_cons_succ])
      refine wpAnyH_take (i := 12) (v := undef) rfl (by kernel_rfl) (by kernel_rfl) (by kernel_rfl) (fun _ _ _ h => h) (Or.inr ⟨by kernel_rfl, rfl⟩) hS ?_
      (try simp only [Act.put, List.getElem_toArray, List.getElem_cons_succ, List.getElem_cons_zero, List.setIfInBounds_toArray, List.set_cons_zero, List.set_cons_succ])
      refine wpAnyH_take (i := 13) (v := ?_) rfl (by kernel_rfl) (by kernel_rfl) (by kernel_rfl) (fun _ _ _ h => h) (Or.inl ⟨by kernel_rfl, ?_⟩) hS ?_
      rotate_left
      · intro w hSw; (try dsimp only at hSw); go_simp; try (with_reducible rfl)
      (try simp only [Act.put, List.getElem_toArray, List.getElem_cons_succ, List.getElem_cons_zero, List.setIfInBounds_toArray, List.set_cons_zero, List.set_cons_succ])
      refine wpAnyH_take (i := 14) (v := ?_) rfl (by kernel_rfl) (by kernel_rfl) (by kernel_rfl) (fun _ _ _ h => h) (Or.inl ⟨by kernel_rfl, ?_⟩) hS ?_
      rotate_left
      · intro w hSw; (try dsimp only at hSw); go_simp; try (with_reducible rfl)
      (try simp only [Act.put, List.getElem_toArray, List.getElem_cons_succ, List.getElem_cons_zero, List.setIfInBounds_toArray, List.set_cons_zero, List.set_cons_succ])
      refine wpAnyH_done (by kernel_rfl) ?_ _
      clear hS
      go_wp2_with fail
      go_ret
      exact ⟨rfl, HY.out.2.2⟩
end Go.Proofs.YtdljceeoofhfnaaDoor
