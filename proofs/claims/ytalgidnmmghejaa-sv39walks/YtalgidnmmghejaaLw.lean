/- The law Sv39Walks: any access through any tables. -/
import Derived.Test.YtalgidnmmghejaaLb
import Derived.Test.YtalgidnmmghejaaRs
namespace Go.Proofs.Ytalgidnmmghejaa
open Go.RowKit Go.Maps
set_option linter.unusedVariables false
set_option linter.unusedSimpArgs false
set_option maxRecDepth 100000
set_option maxHeartbeats 4000000 in
theorem walks_long (av : Option Addr) (len cap : Nat) (ws : Nat → Nat × Nat) (satp : Nat) (kind mode : Int) (sum mxr : Bool) (hsat : satp < 18446744073709551616) (va : Nat) (hva : va < 18446744073709551616) (w : World) (hlen : 60 < len) : Calls Try.prog 3 #[.slice av len cap, .agg #[.int .u64 (satp : Nat), .int .i64 kind, .int .i64 mode, .bool sum, .bool mxr], .int .u64 (va : Int)] w fun e w' => e = .returned (.bool true) ∧ Below w.heap.size w w' := by
  have X0 : Hid (At 25 w (w.alloc (.cells #[.int .u64 (satp : Nat), .int .i64 kind, .int .i64 mode, .bool sum, .bool mxr] 25)) #[.int .u64 (satp : Nat), .int .i64 kind, .int .i64 mode, .bool sum, .bool mxr]) := At.new _ _ _
  go_enter Try.func3, Try.ntmps3
  go_upto_region 1 with fail
  generalize (w.alloc (.cells #[.int .u64 (satp : Nat), .int .i64 kind, .int .i64 mode, .bool sum, .bool mxr] 25)) = V0 at *
  go_wp2_with fail
  refine (awake_any _).mono ?_
  rintro e w1 ⟨rfl, hb⟩
  have X1 : Hid (At 25 w w1 #[.int .u64 (satp : Nat), .int .i64 kind, .int .i64 mode, .bool sum, .bool mxr]) := X0.out.step hb
  clear hb X0
  go_wp2_with fail
  refine (memory_long av len cap hlen _).mono ?_
  rintro e w2 ⟨rfl, hb⟩
  have X2 : Hid (At 25 w w2 #[.int .u64 (satp : Nat), .int .i64 kind, .int .i64 mode, .bool sum, .bool mxr]) := X1.out.step hb
  clear hb X1
  go_wp2_with fail
  go_ret
  exact ⟨rfl, X2.out.2.alloc X2.out.2.size _⟩
set_option maxHeartbeats 4000000 in
theorem walks_core (av : Option Addr) (len cap : Nat) (ws : Nat → Nat × Nat) (satp : Nat) (kind mode : Int) (sum mxr : Bool) (hsat : satp < 18446744073709551616) (va : Nat) (hva : va < 18446744073709551616) (w : World) (hws : PutsIn w (.slice av len cap) len ws) : Calls Try.prog 3 #[.slice av len cap, .agg #[.int .u64 (satp : Nat), .int .i64 kind, .int .i64 mode, .bool sum, .bool mxr], .int .u64 (va : Int)] w fun e w' => e = .returned (.bool true) ∧ Below w.heap.size w w' := by
  by_cases hlen : 60 < len
  · exact walks_long av len cap ws satp kind mode sum mxr hsat va hva w hlen
  have HW : Hid (PutsIn w (.slice av len cap) len ws ∧ len ≤ 60 ∧ satp < 18446744073709551616 ∧ va < 18446744073709551616) := ⟨hws, by omega, hsat, hva⟩
  clear hws hlen hsat hva
  have X0 : Hid (At 25 w (w.alloc (.cells #[.int .u64 (satp : Nat), .int .i64 kind, .int .i64 mode, .bool sum, .bool mxr] 25)) #[.int .u64 (satp : Nat), .int .i64 kind, .int .i64 mode, .bool sum, .bool mxr]) := At.new _ _ _
  go_enter Try.func3, Try.ntmps3
  go_upto_region 1 with fail
  generalize (w.alloc (.cells #[.int .u64 (satp : Nat), .int .i64 kind, .int .i64 mode, .bool sum, .bool mxr] 25)) = V0 at *
  go_wp2_with fail
  refine (awake_any _).mono ?_
  rintro e w1 ⟨rfl, hb⟩
  have X1 : Hid (At 25 w w1 #[.int .u64 (satp : Nat), .int .i64 kind, .int .i64 mode, .bool sum, .bool mxr]) := X0.out.step hb
  clear hb X0
  go_wp2_with fail
  refine (memory_any av len cap ws HW.out.2.1 _ (HW.out.1.below X1.out.2)).mono ?_
  rintro e w2 ⟨rb, F, a, n, c, M, rfl, hB, -, hb⟩
  have X2 : Hid (At 25 w w2 #[.int .u64 (satp : Nat), .int .i64 kind, .int .i64 mode, .bool sum, .bool mxr] ∧ Both F w2 rb 32768 (.slice a n c) 480 M) := ⟨X1.out.step hb, hB⟩
  clear hb hB X1
  go_upto_region 4 with fail
  have X3 : Hid (Sta w (w2.alloc (.cells #[.int .u64 32768, .slice a n c] 30)) w2.heap.size rb satp kind mode sum mxr a n c F M) := by
    have hn : Below w2.heap.size w2 (w2.alloc (.cells #[.int .u64 32768, .slice a n c] 30)) := (Below.refl _ _).alloc (Nat.le_refl _) _
    exact ⟨X2.out.1.step hn, heap_alloc_new w2 _, X2.out.2.below hn⟩
  clear X2
  generalize w2.heap.size = bb at *
  generalize w2.alloc (.cells #[.int .u64 32768, .slice a n c] 30) = V3 at *
  have f0 := cellOf X3.out.1.1 0 _ rfl
  have f1 := cellOf X3.out.1.1 1 _ rfl
  have f2 := cellOf X3.out.1.1 2 _ rfl
  have f3 := cellOf X3.out.1.1 3 _ rfl
  have f4 := cellOf X3.out.1.1 4 _ rfl
  have cr : ∀ V, Calls Try.prog 10 #[.agg #[.int .u64 (satp : Nat), .int .i64 kind, .int .i64 mode, .bool sum, .bool mxr]] V fun e w' => e = .returned (.bool (rightM mode)) ∧ Below V.heap.size V w' := fun V => right_any satp kind mode sum mxr V V (Below.refl _ _)
  cases hr : rightM mode with
  | false =>
    rw [hr] at cr
    go_wp2_with fail
    refine (cr _).mono ?_
    rintro e w4 ⟨rfl, hb⟩
    have X4 : Hid (Sta w w4 bb rb satp kind mode sum mxr a n c F M) := X3.out.step hb
    clear hb X3
    go_wp2_with fail
    go_ret
    exact ⟨rfl, X4.out.1.2⟩
  | true =>
    rw [hr] at cr
    go_wp2_with fail
    refine (cr _).mono ?_
    rintro e w4 ⟨rfl, hb⟩
    have X4 : Hid (Sta w w4 bb rb satp kind mode sum mxr a n c F M) := X3.out.step hb
    have HM : Hid (rightM mode = true) := hr
    clear hb X3 cr f0 f1 f2 f3 f4 hr
    have cw : ∀ V, Calls Try.prog 13 #[.agg #[.int .u64 (satp : Nat), .int .i64 kind, .int .i64 mode, .bool sum, .bool mxr]] V fun e w' => e = .returned (.agg #[.int .u64 (satp : Nat), .int .i64 kind, .int .i64 mode, .bool sum, .bool mxr]) ∧ Below V.heap.size V w' := fun V => way_any satp kind mode sum mxr V V (Below.refl _ _)
    have cp : ∀ V, Sta w V bb rb satp kind mode sum mxr a n c F M → Calls Try.prog 12 #[.pointer (some ⟨rb, 0, none⟩), .agg #[.int .u64 (satp : Nat), .int .i64 kind, .int .i64 mode, .bool sum, .bool mxr], .int .u64 (va : Int)] V fun e w' => e = .returned (.agg (resC (walkR M 32768 satp kind mode sum mxr va))) ∧ Below V.heap.size V w' := fun V h => walk_any satp kind mode sum mxr va HW.out.2.2.1 HW.out.2.2.2 h.2.2.1 (by omega)
    have cd : ∀ V, Sta w V bb rb satp kind mode sum mxr a n c F M → Calls Try.prog 14 #[.agg #[.int .u64 32768, .slice a n c], .agg #[.int .u64 (satp : Nat), .int .i64 kind, .int .i64 mode, .bool sum, .bool mxr], .int .u64 (va : Int)] V fun e w' => e = .returned (.agg (resC (walkR M 32768 satp kind mode sum mxr va))) ∧ Below V.heap.size V w' := fun V h => by
      obtain ⟨h1, nb, bs, h2, h3, h4, h5, h6⟩ := h.2.2
      exact dwalk_any satp kind mode sum mxr va 32768 nb a n c bs F M HW.out.2.2.1 HW.out.2.2.2 (by omega) (by omega) h5 h1.le V h4
    have ci : ∀ V, Calls Try.prog 11 #[.agg (resC (walkR M 32768 satp kind mode sum mxr va)), .agg (resC (walkR M 32768 satp kind mode sum mxr va))] V fun e w' => e = .returned (.bool true) ∧ Below V.heap.size V w' := fun V => same_any _ V V (Below.refl _ _)
    generalize walkR M 32768 satp kind mode sum mxr va = R at *
    go_upto_region 6 with fail
    have X4d : Hid (Sta w w4.drew bb rb satp kind mode sum mxr a n c F M) := X4.out.step (Below.drew (Below.refl _ _))
    refine wp_region_held_drew (S := fun V => (V.cell? ⟨w.heap.size, 0, none⟩ = some (.int .u64 (satp : Nat)) ∧ V.cell? ⟨w.heap.size, 1, none⟩ = some (.int .i64 kind) ∧ V.cell? ⟨w.heap.size, 2, none⟩ = some (.int .i64 mode) ∧ V.cell? ⟨w.heap.size, 3, none⟩ = some (.bool sum) ∧ V.cell? ⟨w.heap.size, 4, none⟩ = some (.bool mxr)) ∧ V.cell? ⟨bb, 0, none⟩ = some (.int .u64 32768) ∧ V.cell? ⟨bb, 1, none⟩ = some (.slice a n c)) (by kernel_rfl) ⟨⟨cellOf X4d.out.1.1 0 _ rfl, cellOf X4d.out.1.1 1 _ rfl, cellOf X4d.out.1.1 2 _ rfl, cellOf X4d.out.1.1 3 _ rfl, cellOf X4d.out.1.1 4 _ rfl⟩, cellOf X4d.out.2.1 0 _ rfl, cellOf X4d.out.2.1 1 _ rfl⟩ ?_
    intro hS
    refine wpAnyH_take (i := 0) (v := ?_) rfl (by kernel_rfl) (by kernel_rfl) (by kernel_rfl) (fun _ _ _ h => h) (Or.inl ⟨by kernel_rfl, ?_⟩) hS ?_
    rotate_left
    · intro w hSw; (try dsimp only at hSw); go_simp; try (with_reducible rfl)
    (try simp only [Act.put, List.getElem_toArray, List.getElem_cons_succ, List.getElem_cons_zero, List.setIfInBounds_toArray, List.set_cons_zero, List.set_cons_succ])
    refine wpAnyH_take (i := 1) (v := ?_) rfl (by kernel_rfl) (by kernel_rfl) (by kernel_rfl) (fun _ _ _ h => h) (Or.inl ⟨by kernel_rfl, ?_⟩) hS ?_
    rotate_left
    · intro w hSw; (try dsimp only at hSw); go_simp; try (with_reducible rfl)
    (try simp only [Act.put, List.getElem_toArray, List.getElem_cons_succ, List.getElem_cons_zero, List.setIfInBounds_toArray, List.set_cons_zero, List.set_cons_succ])
    refine wpAnyH_take (i := 3) (v := ?_) rfl (by kernel_rfl) (by kernel_rfl) (by kernel_rfl) (fun _ _ _ h => h) (Or.inl ⟨by kernel_rfl, ?_⟩) hS ?_
    rotate_left
    · intro w hSw; (try dsimp only at hSw); go_simp; try (with_reducible rfl)
    (try simp only [Act.put, List.getElem_toArray, List.getElem_cons_succ, List.getElem_cons_zero, List.setIfInBounds_toArray, List.set_cons_zero, List.set_cons_succ])
    refine wpAnyH_take (i := 5) (v := ?_) rfl (by kernel_rfl) (by kernel_rfl) (by kernel_rfl) (fun _ _ _ h => h) (Or.inl ⟨by kernel_rfl, ?_⟩) hS ?_
    rotate_left
    · intro w hSw; (try dsimp only at hSw); go_simp; try (with_reducible rfl)
    (try simp only [Act.put, List.getElem_toArray, List.getElem_cons_succ, List.getElem_cons_zero, List.setIfInBounds_toArray, List.set_cons_zero, List.set_cons_succ])
    refine wpAnyH_take (i := 6) (v := ?_) rfl (by kernel_rfl) (by kernel_rfl) (by kernel_rfl) (fun _ _ _ h => h) (Or.inl ⟨by kernel_rfl, ?_⟩) hS ?_
    rotate_left
    · intro w hSw; (try dsimp only at hSw); go_simp; try (with_reducible rfl)
    (try simp only [Act.put, List.getElem_toArray, List.getElem_cons_succ, List.getElem_cons_zero, List.setIfInBounds_toArray, List.set_cons_zero, List.set_cons_succ])
    refine wpAnyH_take (i := 7) (v := ?_) rfl (by kernel_rfl) (by kernel_rfl) (by kernel_rfl) (fun _ _ _ h => h) (Or.inl ⟨by kernel_rfl, ?_⟩) hS ?_
    rotate_left
    · intro w hSw; (try dsimp only at hSw); go_simp; try (with_reducible rfl)
    (try simp only [Act.put, List.getElem_toArray, List.getElem_cons_succ, List.getElem_cons_zero, List.setIfInBounds_toArray, List.set_cons_zero, List.set_cons_succ])
    refine wpAnyH_ready (rs := [2]) (by kernel_rfl) (by simp) ?_
    refine AllReadyH.cons rfl (fun K1 hK1 => ?_) AllReadyH.nil
    go_simp
    refine (cw _).mono ?_
    rintro e w11 ⟨rfl, hb⟩
    have X11 : Hid (Sta w w11 bb rb satp kind mode sum mxr a n c F M) := X4d.out.step hb
    clear hb
    refine hK1.out _ _ ⟨⟨cellOf X11.out.1.1 0 _ rfl, cellOf X11.out.1.1 1 _ rfl, cellOf X11.out.1.1 2 _ rfl, cellOf X11.out.1.1 3 _ rfl, cellOf X11.out.1.1 4 _ rfl⟩, cellOf X11.out.2.1 0 _ rfl, cellOf X11.out.2.1 1 _ rfl⟩ (fun hS11 => ?_)
    clear hK1 K1 hS
    (try simp only [Act.put, List.getElem_toArray, List.getElem_cons_succ, List.getElem_cons_zero, List.setIfInBounds_toArray, List.set_cons_zero, List.set_cons_succ])
    refine wpAnyH_ready (rs := [4]) (by kernel_rfl) (by simp) ?_
    refine AllReadyH.cons rfl (fun K1 hK1 => ?_) AllReadyH.nil
    go_simp
    refine (cp _ X11.out).mono ?_
    rintro e w12 ⟨rfl, hb⟩
    have X12 : Hid (Sta w w12 bb rb satp kind mode sum mxr a n c F M) := X11.out.step hb
    clear hb
    refine hK1.out _ _ ⟨⟨cellOf X12.out.1.1 0 _ rfl, cellOf X12.out.1.1 1 _ rfl, cellOf X12.out.1.1 2 _ rfl, cellOf X12.out.1.1 3 _ rfl, cellOf X12.out.1.1 4 _ rfl⟩, cellOf X12.out.2.1 0 _ rfl, cellOf X12.out.2.1 1 _ rfl⟩ (fun hS12 => ?_)
    clear hK1 K1 hS11
    (try simp only [Act.put, List.getElem_toArray, List.getElem_cons_succ, List.getElem_cons_zero, List.setIfInBounds_toArray, List.set_cons_zero, List.set_cons_succ])
    refine wpAnyH_ready (rs := [8]) (by kernel_rfl) (by simp) ?_
    refine AllReadyH.cons rfl (fun K1 hK1 => ?_) AllReadyH.nil
    go_simp
    refine (cd _ X12.out).mono ?_
    rintro e w13 ⟨rfl, hb⟩
    have X13 : Hid (Sta w w13 bb rb satp kind mode sum mxr a n c F M) := X12.out.step hb
    clear hb
    refine hK1.out _ _ ⟨⟨cellOf X13.out.1.1 0 _ rfl, cellOf X13.out.1.1 1 _ rfl, cellOf X13.out.1.1 2 _ rfl, cellOf X13.out.1.1 3 _ rfl, cellOf X13.out.1.1 4 _ rfl⟩, cellOf X13.out.2.1 0 _ rfl, cellOf X13.out.2.1 1 _ rfl⟩ (fun hS13 => ?_)
    clear hK1 K1 hS12
    (try simp only [Act.put, List.getElem_toArray, List.getElem_cons_succ, List.getElem_cons_zero, List.setIfInBounds_toArray, List.set_cons_zero, List.set_cons_succ])
    refine wpAnyH_ready (rs := [9]) (by kernel_rfl) (by simp) ?_
    refine AllReadyH.cons rfl (fun K1 hK1 => ?_) AllReadyH.nil
    go_simp
    refine (ci _).mono ?_
    rintro e w14 ⟨rfl, hb⟩
    have X14 : Hid (Sta w w14 bb rb satp kind mode sum mxr a n c F M) := X13.out.step hb
    clear hb
    refine hK1.out _ _ ⟨⟨cellOf X14.out.1.1 0 _ rfl, cellOf X14.out.1.1 1 _ rfl, cellOf X14.out.1.1 2 _ rfl, cellOf X14.out.1.1 3 _ rfl, cellOf X14.out.1.1 4 _ rfl⟩, cellOf X14.out.2.1 0 _ rfl, cellOf X14.out.2.1 1 _ rfl⟩ (fun hS14 => ?_)
    clear hK1 K1 hS13
    (try simp only [Act.put, List.getElem_toArray, List.getElem_cons_succ, List.getElem_cons_zero, List.setIfInBounds_toArray, List.set_cons_zero, List.set_cons_succ])
    refine wpAnyH_take (i := 10) (v := ?_) rfl (by kernel_rfl) (by kernel_rfl) (by kernel_rfl) (fun _ _ _ h => h) (Or.inl ⟨by kernel_rfl, ?_⟩) hS14 ?_
    rotate_left
    · intro w hSw; (try dsimp only at hSw); go_simp; try (with_reducible rfl)
    (try simp only [Act.put, List.getElem_toArray, List.getElem_cons_succ, List.getElem_cons_zero, List.setIfInBounds_toArray, List.set_cons_zero, List.set_cons_succ])
    refine wpAnyH_done (by kernel_rfl) ?_ _
    clear hS14
    go_wp2_with fail
    go_ret
    exact ⟨rfl, X14.out.1.2⟩
end Go.Proofs.Ytalgidnmmghejaa
