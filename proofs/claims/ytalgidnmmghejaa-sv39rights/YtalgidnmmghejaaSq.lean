/- Which accesses package sv39 allows by an entry. -/
import Derived.Test.YtalgidnmmghejaaSp
import Derived.Deep.DeepCutAuto
import Derived.Deep.RegionHeld3
namespace Go.Proofs.Ytalgidnmmghejaa
open Go.RowKit
set_option linter.unusedVariables false
set_option linter.unusedSimpArgs false
set_option maxRecDepth 100000
theorem admitted_any (satp : Nat) (kind mode : Int) (sum mxr : Bool) (u : Bool) (W w : World) (hb : Below W.heap.size W w) : Calls Try.prog 91 #[.agg #[.int .u64 (satp : Nat), .int .i64 kind, .int .i64 mode, .bool sum, .bool mxr], .bool u] w fun e w' => e = .returned (.bool (admB kind mode sum u)) ∧ Below W.heap.size W w' := by
  by_cases m0 : mode = 0
  · subst m0
    go_enter Try.func91, Try.ntmps91
    go_wp2_with fail
    go_ret
    exact ⟨by simp [admB], hb.alloc hb.size _⟩
  by_cases m1 : mode = 1
  · subst m1
    clear m0
    cases u
    · go_enter Try.func91, Try.ntmps91
      go_wp2_with fail
      go_ret
      exact ⟨by simp [admB], hb.alloc hb.size _⟩
    · by_cases k0 : kind = 0
      · subst k0
        go_enter Try.func91, Try.ntmps91
        go_wp2_with fail
        go_ret
        exact ⟨by simp [admB], hb.alloc hb.size _⟩
      · have k1 : (kind == 0) = false := by simp [k0]
        have k2 : (kind != 0) = true := by simp [k0]
        go_enter Try.func91, Try.ntmps91
        go_wp2_with fail
        go_ret
        exact ⟨by simp [admB, k0], hb.alloc hb.size _⟩
  · have n0 : (mode == 0) = false := by simp [m0]
    have n1 : (mode == 1) = false := by simp [m1]
    go_enter Try.func91, Try.ntmps91
    go_wp2_with fail
    go_ret
    exact ⟨by simp [admB, m0, m1], hb.alloc hb.size _⟩
/-- a box lies ahead of all that is new -/
def At (t : TypeId) (w V : World) (c : Array Value) : Prop := V.heap[w.heap.size]? = some (.cells c t (0, 0)) ∧ Below w.heap.size w V
theorem below_box {w w2 : World} {b : Nat} {o : Obj} (h : w.heap[b]? = some o) (hb : Below w.heap.size w w2) : w2.heap[b]? = some o := (hb.block b (Array.getElem?_eq_some_iff.1 h).1).trans h
theorem At.step {t : TypeId} {w V V' : World} {c : Array Value} (h : At t w V c) (hb : Below V.heap.size V V') : At t w V' c := ⟨below_box h.1 hb, h.2.trans (hb.mono h.2.size)⟩
theorem At.drew {t : TypeId} {w V : World} {c : Array Value} (h : At t w V c) : At t w V.drew c := h.step (Below.drew (Below.refl _ _))
theorem At.new (t : TypeId) (w : World) (c : Array Value) : At t w (w.alloc (.cells c t)) c := ⟨heap_alloc_new w _, (Below.refl _ _).alloc (Nat.le_refl _) _⟩
set_option maxHeartbeats 4000000 in
theorem allowed_core (satp : Nat) (kind mode : Int) (sum mxr : Bool) (x : Nat) (B : Int → Bool) (w : World) (c : ∀ (i : Int) V, Calls Try.prog 70 #[.int .u64 (x : Int), .int .i64 i] V fun e w' => e = .returned (.bool (B i)) ∧ Below V.heap.size V w')
    (u1 u2 u3 u4 u6 u7 : Bool) (h1 : B 1 = u1) (h2 : B 2 = u2) (h3 : B 3 = u3) (h4 : B 4 = u4) (h6 : B 6 = u6) (h7 : B 7 = u7) (R : Bool) (hR : Hid (R = (admB kind mode sum u4 && u6 && (if kind = 0 then u3 else if kind = 1 then u1 || (u3 && mxr) else u2 && u7)))) :
    Calls Try.prog 72 #[.agg #[.int .u64 (satp : Nat), .int .i64 kind, .int .i64 mode, .bool sum, .bool mxr], .int .u64 (x : Nat)] w fun e w' => e = .returned (.bool R) ∧ Below w.heap.size w w' := by
  have d : ∀ V, Calls Try.prog 91 #[.agg #[.int .u64 (satp : Nat), .int .i64 kind, .int .i64 mode, .bool sum, .bool mxr], .bool u4] V fun e w' => e = .returned (.bool (admB kind mode sum u4)) ∧ Below V.heap.size V w' := fun V => admitted_any satp kind mode sum mxr u4 V V (Below.refl _ _)
  by_cases hA : admB kind mode sum u4 = false
  · rw [hA] at d
    have X0 : Hid (At 40 w (w.alloc (.cells #[.int .u64 (satp : Nat), .int .i64 kind, .int .i64 mode, .bool sum, .bool mxr] 40)) #[.int .u64 (satp : Nat), .int .i64 kind, .int .i64 mode, .bool sum, .bool mxr]) := At.new _ _ _
    go_enter Try.func72, Try.ntmps72
    go_upto_region 1 with fail
    generalize w.alloc (.cells #[.int .u64 (satp : Nat), .int .i64 kind, .int .i64 mode, .bool sum, .bool mxr] 40) = V0 at *
    have X0d : Hid (At 40 w V0.drew #[.int .u64 (satp : Nat), .int .i64 kind, .int .i64 mode, .bool sum, .bool mxr]) := X0.out.drew
    refine wp_region_held_drew (S := fun V => V.cell? ⟨w.heap.size, 0, none⟩ = some (.int .u64 (satp : Nat)) ∧ V.cell? ⟨w.heap.size, 1, none⟩ = some (.int .i64 kind) ∧ V.cell? ⟨w.heap.size, 2, none⟩ = some (.int .i64 mode) ∧ V.cell? ⟨w.heap.size, 3, none⟩ = some (.bool sum) ∧ V.cell? ⟨w.heap.size, 4, none⟩ = some (.bool mxr)) (by kernel_rfl) ⟨cellOf X0d.out.1 0 _ rfl, cellOf X0d.out.1 1 _ rfl, cellOf X0d.out.1 2 _ rfl, cellOf X0d.out.1 3 _ rfl, cellOf X0d.out.1 4 _ rfl⟩ ?_
    intro hS
    refine wpAnyH_take (i := 0) (v := ?_) rfl (by kernel_rfl) (by kernel_rfl) (by kernel_rfl) (fun _ _ _ h => h) (Or.inl ⟨by kernel_rfl, ?_⟩) hS ?_
    rotate_left
    · intro w hSw; (try dsimp only at hSw); go_simp; try (with_reducible rfl)
    (try simp only [Act.put, List.getElem_toArray, List.getElem_cons_succ, List.getElem_cons_zero, List.setIfInBounds_toArray, List.set_cons_zero, List.set_cons_succ])
    refine wpAnyH_take (i := 1) (v := ?_) rfl (by kernel_rfl) (by kernel_rfl) (by kernel_rfl) (fun _ _ _ h => h) (Or.inl ⟨by kernel_rfl, ?_⟩) hS ?_
    rotate_left
    · intro w hSw; (try dsimp only at hSw); go_simp; try (with_reducible rfl)
    (try simp only [Act.put, List.getElem_toArray, List.getElem_cons_succ, List.getElem_cons_zero, List.setIfInBounds_toArray, List.set_cons_zero, List.set_cons_succ])
    refine wpAnyH_ready (rs := [2]) (by kernel_rfl) (by simp) ?_
    refine AllReadyH.cons rfl (fun K1 hK1 => ?_) AllReadyH.nil
    go_simp
    refine (c 4 _).mono ?_
    rintro e w11 ⟨rfl, hb⟩
    have X11 : Hid (At 40 w w11 #[.int .u64 (satp : Nat), .int .i64 kind, .int .i64 mode, .bool sum, .bool mxr]) := X0d.out.step hb
    clear hb
    refine hK1.out _ _ ⟨cellOf X11.out.1 0 _ rfl, cellOf X11.out.1 1 _ rfl, cellOf X11.out.1 2 _ rfl, cellOf X11.out.1 3 _ rfl, cellOf X11.out.1 4 _ rfl⟩ (fun hS11 => ?_)
    clear hK1 K1 hS
    (try simp only [Act.put, List.getElem_toArray, List.getElem_cons_succ, List.getElem_cons_zero, List.setIfInBounds_toArray, List.set_cons_zero, List.set_cons_succ])
    refine wpAnyH_ready (rs := [3]) (by kernel_rfl) (by simp) ?_
    refine AllReadyH.cons rfl (fun K1 hK1 => ?_) AllReadyH.nil
    go_simp
    refine (d _).mono ?_
    rintro e w12 ⟨rfl, hb⟩
    have X12 : Hid (At 40 w w12 #[.int .u64 (satp : Nat), .int .i64 kind, .int .i64 mode, .bool sum, .bool mxr]) := X11.out.step hb
    clear hb
    refine hK1.out _ _ ⟨cellOf X12.out.1 0 _ rfl, cellOf X12.out.1 1 _ rfl, cellOf X12.out.1 2 _ rfl, cellOf X12.out.1 3 _ rfl, cellOf X12.out.1 4 _ rfl⟩ (fun hS12 => ?_)
    clear hK1 K1 hS11
    (try simp only [Act.put, List.getElem_toArray, List.getElem_cons_succ, List.getElem_cons_zero, List.setIfInBounds_toArray, List.set_cons_zero, List.set_cons_succ])
    refine wpAnyH_take (i := 4) (v := ?_) rfl (by kernel_rfl) (by kernel_rfl) (by kernel_rfl) (fun _ _ _ h => h) (Or.inl ⟨by kernel_rfl, ?_⟩) hS12 ?_
    rotate_left
    · intro w hSw; (try dsimp only at hSw); go_simp; try (with_reducible rfl)
    (try simp only [Act.put, List.getElem_toArray, List.getElem_cons_succ, List.getElem_cons_zero, List.setIfInBounds_toArray, List.set_cons_zero, List.set_cons_succ])
    refine wpAnyH_take (i := 5) (v := ?_) rfl (by kernel_rfl) (by kernel_rfl) (by kernel_rfl) (fun _ _ _ h => h) (Or.inl ⟨by kernel_rfl, ?_⟩) hS12 ?_
    rotate_left
    · intro w hSw; (try dsimp only at hSw); go_simp; try (with_reducible rfl)
    (try simp only [Act.put, List.getElem_toArray, List.getElem_cons_succ, List.getElem_cons_zero, List.setIfInBounds_toArray, List.set_cons_zero, List.set_cons_succ])
    refine wpAnyH_take (i := 6) (v := undef) rfl (by kernel_rfl) (by kernel_rfl) (by kernel_rfl) (fun _ _ _ h => h) (Or.inr ⟨by kernel_rfl, rfl⟩) hS12 ?_
    (try simp only [Act.put, List.getElem_toArray, List.getElem_cons_succ, List.getElem_cons_zero, List.setIfInBounds_toArray, List.set_cons_zero, List.set_cons_succ])
    refine wpAnyH_take (i := 7) (v := undef) rfl (by kernel_rfl) (by kernel_rfl) (by kernel_rfl) (fun _ _ _ h => h) (Or.inr ⟨by kernel_rfl, rfl⟩) hS12 ?_
    (try simp only [Act.put, List.getElem_toArray, List.getElem_cons_succ, List.getElem_cons_zero, List.setIfInBounds_toArray, List.set_cons_zero, List.set_cons_succ])
    refine wpAnyH_take (i := 8) (v := undef) rfl (by kernel_rfl) (by kernel_rfl) (by kernel_rfl) (fun _ _ _ h => h) (Or.inr ⟨by kernel_rfl, rfl⟩) hS12 ?_
    (try simp only [Act.put, List.getElem_toArray, List.getElem_cons_succ, List.getElem_cons_zero, List.setIfInBounds_toArray, List.set_cons_zero, List.set_cons_succ])
    refine wpAnyH_take (i := 9) (v := ?_) rfl (by kernel_rfl) (by kernel_rfl) (by kernel_rfl) (fun _ _ _ h => h) (Or.inl ⟨by kernel_rfl, ?_⟩) hS12 ?_
    rotate_left
    · intro w hSw; (try dsimp only at hSw); go_simp; try (with_reducible rfl)
    (try simp only [Act.put, List.getElem_toArray, List.getElem_cons_succ, List.getElem_cons_zero, List.setIfInBounds_toArray, List.set_cons_zero, List.set_cons_succ])
    refine wpAnyH_done (by kernel_rfl) ?_ _
    clear hS12
    go_wp2_with fail
    go_ret
    exact ⟨by rw [hR.out, hA]; simp [], X12.out.2⟩
  rw [Bool.not_eq_false] at hA
  rw [hA] at d
  cases u6
  · have X0 : Hid (At 40 w (w.alloc (.cells #[.int .u64 (satp : Nat), .int .i64 kind, .int .i64 mode, .bool sum, .bool mxr] 40)) #[.int .u64 (satp : Nat), .int .i64 kind, .int .i64 mode, .bool sum, .bool mxr]) := At.new _ _ _
    go_enter Try.func72, Try.ntmps72
    go_upto_region 1 with fail
    generalize w.alloc (.cells #[.int .u64 (satp : Nat), .int .i64 kind, .int .i64 mode, .bool sum, .bool mxr] 40) = V0 at *
    have X0d : Hid (At 40 w V0.drew #[.int .u64 (satp : Nat), .int .i64 kind, .int .i64 mode, .bool sum, .bool mxr]) := X0.out.drew
    refine wp_region_held_drew (S := fun V => V.cell? ⟨w.heap.size, 0, none⟩ = some (.int .u64 (satp : Nat)) ∧ V.cell? ⟨w.heap.size, 1, none⟩ = some (.int .i64 kind) ∧ V.cell? ⟨w.heap.size, 2, none⟩ = some (.int .i64 mode) ∧ V.cell? ⟨w.heap.size, 3, none⟩ = some (.bool sum) ∧ V.cell? ⟨w.heap.size, 4, none⟩ = some (.bool mxr)) (by kernel_rfl) ⟨cellOf X0d.out.1 0 _ rfl, cellOf X0d.out.1 1 _ rfl, cellOf X0d.out.1 2 _ rfl, cellOf X0d.out.1 3 _ rfl, cellOf X0d.out.1 4 _ rfl⟩ ?_
    intro hS
    refine wpAnyH_take (i := 0) (v := ?_) rfl (by kernel_rfl) (by kernel_rfl) (by kernel_rfl) (fun _ _ _ h => h) (Or.inl ⟨by kernel_rfl, ?_⟩) hS ?_
    rotate_left
    · intro w hSw; (try dsimp only at hSw); go_simp; try (with_reducible rfl)
    (try simp only [Act.put, List.getElem_toArray, List.getElem_cons_succ, List.getElem_cons_zero, List.setIfInBounds_toArray, List.set_cons_zero, List.set_cons_succ])
    refine wpAnyH_take (i := 1) (v := ?_) rfl (by kernel_rfl) (by kernel_rfl) (by kernel_rfl) (fun _ _ _ h => h) (Or.inl ⟨by kernel_rfl, ?_⟩) hS ?_
    rotate_left
    · intro w hSw; (try dsimp only at hSw); go_simp; try (with_reducible rfl)
    (try simp only [Act.put, List.getElem_toArray, List.getElem_cons_succ, List.getElem_cons_zero, List.setIfInBounds_toArray, List.set_cons_zero, List.set_cons_succ])
    refine wpAnyH_ready (rs := [2]) (by kernel_rfl) (by simp) ?_
    refine AllReadyH.cons rfl (fun K1 hK1 => ?_) AllReadyH.nil
    go_simp
    refine (c 4 _).mono ?_
    rintro e w11 ⟨rfl, hb⟩
    have X11 : Hid (At 40 w w11 #[.int .u64 (satp : Nat), .int .i64 kind, .int .i64 mode, .bool sum, .bool mxr]) := X0d.out.step hb
    clear hb
    refine hK1.out _ _ ⟨cellOf X11.out.1 0 _ rfl, cellOf X11.out.1 1 _ rfl, cellOf X11.out.1 2 _ rfl, cellOf X11.out.1 3 _ rfl, cellOf X11.out.1 4 _ rfl⟩ (fun hS11 => ?_)
    clear hK1 K1 hS
    (try simp only [Act.put, List.getElem_toArray, List.getElem_cons_succ, List.getElem_cons_zero, List.setIfInBounds_toArray, List.set_cons_zero, List.set_cons_succ])
    refine wpAnyH_ready (rs := [3]) (by kernel_rfl) (by simp) ?_
    refine AllReadyH.cons rfl (fun K1 hK1 => ?_) AllReadyH.nil
    go_simp
    refine (d _).mono ?_
    rintro e w12 ⟨rfl, hb⟩
    have X12 : Hid (At 40 w w12 #[.int .u64 (satp : Nat), .int .i64 kind, .int .i64 mode, .bool sum, .bool mxr]) := X11.out.step hb
    clear hb
    refine hK1.out _ _ ⟨cellOf X12.out.1 0 _ rfl, cellOf X12.out.1 1 _ rfl, cellOf X12.out.1 2 _ rfl, cellOf X12.out.1 3 _ rfl, cellOf X12.out.1 4 _ rfl⟩ (fun hS12 => ?_)
    clear hK1 K1 hS11
    (try simp only [Act.put, List.getElem_toArray, List.getElem_cons_succ, List.getElem_cons_zero, List.setIfInBounds_toArray, List.set_cons_zero, List.set_cons_succ])
    refine wpAnyH_take (i := 4) (v := ?_) rfl (by kernel_rfl) (by kernel_rfl) (by kernel_rfl) (fun _ _ _ h => h) (Or.inl ⟨by kernel_rfl, ?_⟩) hS12 ?_
    rotate_left
    · intro w hSw; (try dsimp only at hSw); go_simp; try (with_reducible rfl)
    (try simp only [Act.put, List.getElem_toArray, List.getElem_cons_succ, List.getElem_cons_zero, List.setIfInBounds_toArray, List.set_cons_zero, List.set_cons_succ])
    refine wpAnyH_take (i := 5) (v := ?_) rfl (by kernel_rfl) (by kernel_rfl) (by kernel_rfl) (fun _ _ _ h => h) (Or.inl ⟨by kernel_rfl, ?_⟩) hS12 ?_
    rotate_left
    · intro w hSw; (try dsimp only at hSw); go_simp; try (with_reducible rfl)
    (try simp only [Act.put, List.getElem_toArray, List.getElem_cons_succ, List.getElem_cons_zero, List.setIfInBounds_toArray, List.set_cons_zero, List.set_cons_succ])
    refine wpAnyH_take (i := 6) (v := ?_) rfl (by kernel_rfl) (by kernel_rfl) (by kernel_rfl) (fun _ _ _ h => h) (Or.inl ⟨by kernel_rfl, ?_⟩) hS12 ?_
    rotate_left
    · intro w hSw; (try dsimp only at hSw); go_simp; try (with_reducible rfl)
    (try simp only [Act.put, List.getElem_toArray, List.getElem_cons_succ, List.getElem_cons_zero, List.setIfInBounds_toArray, List.set_cons_zero, List.set_cons_succ])
    refine wpAnyH_ready (rs := [7]) (by kernel_rfl) (by simp) ?_
    refine AllReadyH.cons rfl (fun K1 hK1 => ?_) AllReadyH.nil
    go_simp
    refine (c 6 _).mono ?_
    rintro e w13 ⟨rfl, hb⟩
    have X13 : Hid (At 40 w w13 #[.int .u64 (satp : Nat), .int .i64 kind, .int .i64 mode, .bool sum, .bool mxr]) := X12.out.step hb
    clear hb
    refine hK1.out _ _ ⟨cellOf X13.out.1 0 _ rfl, cellOf X13.out.1 1 _ rfl, cellOf X13.out.1 2 _ rfl, cellOf X13.out.1 3 _ rfl, cellOf X13.out.1 4 _ rfl⟩ (fun hS13 => ?_)
    clear hK1 K1 hS12
    (try simp only [Act.put, List.getElem_toArray, List.getElem_cons_succ, List.getElem_cons_zero, List.setIfInBounds_toArray, List.set_cons_zero, List.set_cons_succ])
    refine wpAnyH_take (i := 8) (v := ?_) rfl (by kernel_rfl) (by kernel_rfl) (by kernel_rfl) (fun _ _ _ h => h) (Or.inl ⟨by kernel_rfl, ?_⟩) hS13 ?_
    rotate_left
    · intro w hSw; (try dsimp only at hSw); go_simp; try (with_reducible rfl)
    (try simp only [Act.put, List.getElem_toArray, List.getElem_cons_succ, List.getElem_cons_zero, List.setIfInBounds_toArray, List.set_cons_zero, List.set_cons_succ])
    refine wpAnyH_take (i := 9) (v := ?_) rfl (by kernel_rfl) (by kernel_rfl) (by kernel_rfl) (fun _ _ _ h => h) (Or.inl ⟨by kernel_rfl, ?_⟩) hS13 ?_
    rotate_left
    · intro w hSw; (try dsimp only at hSw); go_simp; try (with_reducible rfl)
    (try simp only [Act.put, List.getElem_toArray, List.getElem_cons_succ, List.getElem_cons_zero, List.setIfInBounds_toArray, List.set_cons_zero, List.set_cons_succ])
    refine wpAnyH_done (by kernel_rfl) ?_ _
    clear hS13
    go_wp2_with fail
    go_ret
    exact ⟨by rw [hR.out, hA]; simp [], X13.out.2⟩
  have X0 : Hid (At 40 w (w.alloc (.cells #[.int .u64 (satp : Nat), .int .i64 kind, .int .i64 mode, .bool sum, .bool mxr] 40)) #[.int .u64 (satp : Nat), .int .i64 kind, .int .i64 mode, .bool sum, .bool mxr]) := At.new _ _ _
  go_enter Try.func72, Try.ntmps72
  go_upto_region 1 with fail
  generalize w.alloc (.cells #[.int .u64 (satp : Nat), .int .i64 kind, .int .i64 mode, .bool sum, .bool mxr] 40) = V0 at *
  have X0d : Hid (At 40 w V0.drew #[.int .u64 (satp : Nat), .int .i64 kind, .int .i64 mode, .bool sum, .bool mxr]) := X0.out.drew
  refine wp_region_held_drew (S := fun V => V.cell? ⟨w.heap.size, 0, none⟩ = some (.int .u64 (satp : Nat)) ∧ V.cell? ⟨w.heap.size, 1, none⟩ = some (.int .i64 kind) ∧ V.cell? ⟨w.heap.size, 2, none⟩ = some (.int .i64 mode) ∧ V.cell? ⟨w.heap.size, 3, none⟩ = some (.bool sum) ∧ V.cell? ⟨w.heap.size, 4, none⟩ = some (.bool mxr)) (by kernel_rfl) ⟨cellOf X0d.out.1 0 _ rfl, cellOf X0d.out.1 1 _ rfl, cellOf X0d.out.1 2 _ rfl, cellOf X0d.out.1 3 _ rfl, cellOf X0d.out.1 4 _ rfl⟩ ?_
  intro hS
  refine wpAnyH_take (i := 0) (v := ?_) rfl (by kernel_rfl) (by kernel_rfl) (by kernel_rfl) (fun _ _ _ h => h) (Or.inl ⟨by kernel_rfl, ?_⟩) hS ?_
  rotate_left
  · intro w hSw; (try dsimp only at hSw); go_simp; try (with_reducible rfl)
  (try simp only [Act.put, List.getElem_toArray, List.getElem_cons_succ, List.getElem_cons_zero, List.setIfInBounds_toArray, List.set_cons_zero, List.set_cons_succ])
  refine wpAnyH_take (i := 1) (v := ?_) rfl (by kernel_rfl) (by kernel_rfl) (by kernel_rfl) (fun _ _ _ h => h) (Or.inl ⟨by kernel_rfl, ?_⟩) hS ?_
  rotate_left
  · intro w hSw; (try dsimp only at hSw); go_simp; try (with_reducible rfl)
  (try simp only [Act.put, List.getElem_toArray, List.getElem_cons_succ, List.getElem_cons_zero, List.setIfInBounds_toArray, List.set_cons_zero, List.set_cons_succ])
  refine wpAnyH_ready (rs := [2]) (by kernel_rfl) (by simp) ?_
  refine AllReadyH.cons rfl (fun K1 hK1 => ?_) AllReadyH.nil
  go_simp
  refine (c 4 _).mono ?_
  rintro e w11 ⟨rfl, hb⟩
  have X11 : Hid (At 40 w w11 #[.int .u64 (satp : Nat), .int .i64 kind, .int .i64 mode, .bool sum, .bool mxr]) := X0d.out.step hb
  clear hb
  refine hK1.out _ _ ⟨cellOf X11.out.1 0 _ rfl, cellOf X11.out.1 1 _ rfl, cellOf X11.out.1 2 _ rfl, cellOf X11.out.1 3 _ rfl, cellOf X11.out.1 4 _ rfl⟩ (fun hS11 => ?_)
  clear hK1 K1 hS
  (try simp only [Act.put, List.getElem_toArray, List.getElem_cons_succ, List.getElem_cons_zero, List.setIfInBounds_toArray, List.set_cons_zero, List.set_cons_succ])
  refine wpAnyH_ready (rs := [3]) (by kernel_rfl) (by simp) ?_
  refine AllReadyH.cons rfl (fun K1 hK1 => ?_) AllReadyH.nil
  go_simp
  refine (d _).mono ?_
  rintro e w12 ⟨rfl, hb⟩
  have X12 : Hid (At 40 w w12 #[.int .u64 (satp : Nat), .int .i64 kind, .int .i64 mode, .bool sum, .bool mxr]) := X11.out.step hb
  clear hb
  refine hK1.out _ _ ⟨cellOf X12.out.1 0 _ rfl, cellOf X12.out.1 1 _ rfl, cellOf X12.out.1 2 _ rfl, cellOf X12.out.1 3 _ rfl, cellOf X12.out.1 4 _ rfl⟩ (fun hS12 => ?_)
  clear hK1 K1 hS11
  (try simp only [Act.put, List.getElem_toArray, List.getElem_cons_succ, List.getElem_cons_zero, List.setIfInBounds_toArray, List.set_cons_zero, List.set_cons_succ])
  refine wpAnyH_take (i := 4) (v := ?_) rfl (by kernel_rfl) (by kernel_rfl) (by kernel_rfl) (fun _ _ _ h => h) (Or.inl ⟨by kernel_rfl, ?_⟩) hS12 ?_
  rotate_left
  · intro w hSw; (try dsimp only at hSw); go_simp; try (with_reducible rfl)
  (try simp only [Act.put, List.getElem_toArray, List.getElem_cons_succ, List.getElem_cons_zero, List.setIfInBounds_toArray, List.set_cons_zero, List.set_cons_succ])
  refine wpAnyH_take (i := 5) (v := ?_) rfl (by kernel_rfl) (by kernel_rfl) (by kernel_rfl) (fun _ _ _ h => h) (Or.inl ⟨by kernel_rfl, ?_⟩) hS12 ?_
  rotate_left
  · intro w hSw; (try dsimp only at hSw); go_simp; try (with_reducible rfl)
  (try simp only [Act.put, List.getElem_toArray, List.getElem_cons_succ, List.getElem_cons_zero, List.setIfInBounds_toArray, List.set_cons_zero, List.set_cons_succ])
  refine wpAnyH_take (i := 6) (v := ?_) rfl (by kernel_rfl) (by kernel_rfl) (by kernel_rfl) (fun _ _ _ h => h) (Or.inl ⟨by kernel_rfl, ?_⟩) hS12 ?_
  rotate_left
  · intro w hSw; (try dsimp only at hSw); go_simp; try (with_reducible rfl)
  (try simp only [Act.put, List.getElem_toArray, List.getElem_cons_succ, List.getElem_cons_zero, List.setIfInBounds_toArray, List.set_cons_zero, List.set_cons_succ])
  refine wpAnyH_ready (rs := [7]) (by kernel_rfl) (by simp) ?_
  refine AllReadyH.cons rfl (fun K1 hK1 => ?_) AllReadyH.nil
  go_simp
  refine (c 6 _).mono ?_
  rintro e w13 ⟨rfl, hb⟩
  have X13 : Hid (At 40 w w13 #[.int .u64 (satp : Nat), .int .i64 kind, .int .i64 mode, .bool sum, .bool mxr]) := X12.out.step hb
  clear hb
  refine hK1.out _ _ ⟨cellOf X13.out.1 0 _ rfl, cellOf X13.out.1 1 _ rfl, cellOf X13.out.1 2 _ rfl, cellOf X13.out.1 3 _ rfl, cellOf X13.out.1 4 _ rfl⟩ (fun hS13 => ?_)
  clear hK1 K1 hS12
  (try simp only [Act.put, List.getElem_toArray, List.getElem_cons_succ, List.getElem_cons_zero, List.setIfInBounds_toArray, List.set_cons_zero, List.set_cons_succ])
  refine wpAnyH_take (i := 8) (v := ?_) rfl (by kernel_rfl) (by kernel_rfl) (by kernel_rfl) (fun _ _ _ h => h) (Or.inl ⟨by kernel_rfl, ?_⟩) hS13 ?_
  rotate_left
  · intro w hSw; (try dsimp only at hSw); go_simp; try (with_reducible rfl)
  (try simp only [Act.put, List.getElem_toArray, List.getElem_cons_succ, List.getElem_cons_zero, List.setIfInBounds_toArray, List.set_cons_zero, List.set_cons_succ])
  refine wpAnyH_take (i := 9) (v := ?_) rfl (by kernel_rfl) (by kernel_rfl) (by kernel_rfl) (fun _ _ _ h => h) (Or.inl ⟨by kernel_rfl, ?_⟩) hS13 ?_
  rotate_left
  · intro w hSw; (try dsimp only at hSw); go_simp; try (with_reducible rfl)
  (try simp only [Act.put, List.getElem_toArray, List.getElem_cons_succ, List.getElem_cons_zero, List.setIfInBounds_toArray, List.set_cons_zero, List.set_cons_succ])
  refine wpAnyH_done (by kernel_rfl) ?_ _
  clear hS13
  have f1 := cellOf X13.out.1 1 _ rfl
  have f4 := cellOf X13.out.1 4 _ rfl
  by_cases k0 : kind = 0
  · have k0b : (kind == 0) = true := by simp [k0]
    have K0 : Hid (kind = 0) := k0
    clear k0
    go_wp2_with fail
    refine (c 3 _).mono ?_
    rintro e w31 ⟨rfl, hb⟩
    have X31 : Hid (At 40 w w31 #[.int .u64 (satp : Nat), .int .i64 kind, .int .i64 mode, .bool sum, .bool mxr]) := X13.out.step hb
    clear hb
    go_wp2_with fail
    go_ret
    exact ⟨by rw [hR.out, hA]; simp [K0.out], X31.out.2⟩
  have k0b : (kind == 0) = false := by simp [k0]
  have K0 : Hid (¬ kind = 0) := k0
  clear k0
  by_cases k1 : kind = 1
  · have k1b : (kind == 1) = true := by simp [k1]
    have K1 : Hid (kind = 1) := k1
    clear k1
    cases u1
    · cases u3
      · go_wp2_with fail
        refine (c 1 _).mono ?_
        rintro e w31 ⟨rfl, hb⟩
        have X31 : Hid (At 40 w w31 #[.int .u64 (satp : Nat), .int .i64 kind, .int .i64 mode, .bool sum, .bool mxr]) := X13.out.step hb
        clear hb
        go_wp2_with fail
        refine (c 3 _).mono ?_
        rintro e w32 ⟨rfl, hb⟩
        have X32 : Hid (At 40 w w32 #[.int .u64 (satp : Nat), .int .i64 kind, .int .i64 mode, .bool sum, .bool mxr]) := X31.out.step hb
        clear hb
        go_wp2_with fail
        go_ret
        exact ⟨by rw [hR.out, hA]; simp [K0.out, K1.out], X32.out.2⟩
      · go_wp2_with fail
        refine (c 1 _).mono ?_
        rintro e w31 ⟨rfl, hb⟩
        have X31 : Hid (At 40 w w31 #[.int .u64 (satp : Nat), .int .i64 kind, .int .i64 mode, .bool sum, .bool mxr]) := X13.out.step hb
        clear hb
        go_wp2_with fail
        refine (c 3 _).mono ?_
        rintro e w32 ⟨rfl, hb⟩
        have X32 : Hid (At 40 w w32 #[.int .u64 (satp : Nat), .int .i64 kind, .int .i64 mode, .bool sum, .bool mxr]) := X31.out.step hb
        clear hb
        have f4 := cellOf X32.out.1 4 _ rfl
        go_wp2_with fail
        go_ret
        exact ⟨by rw [hR.out, hA]; simp [K0.out, K1.out], X32.out.2⟩
    · go_wp2_with fail
      refine (c 1 _).mono ?_
      rintro e w31 ⟨rfl, hb⟩
      have X31 : Hid (At 40 w w31 #[.int .u64 (satp : Nat), .int .i64 kind, .int .i64 mode, .bool sum, .bool mxr]) := X13.out.step hb
      clear hb
      go_wp2_with fail
      go_ret
      exact ⟨by rw [hR.out, hA]; simp [K0.out, K1.out], X31.out.2⟩
  have k1b : (kind == 1) = false := by simp [k1]
  have K1 : Hid (¬ kind = 1) := k1
  clear k1
  cases u2
  · go_wp2_with fail
    refine (c 2 _).mono ?_
    rintro e w31 ⟨rfl, hb⟩
    have X31 : Hid (At 40 w w31 #[.int .u64 (satp : Nat), .int .i64 kind, .int .i64 mode, .bool sum, .bool mxr]) := X13.out.step hb
    clear hb
    go_wp2_with fail
    go_ret
    exact ⟨by rw [hR.out, hA]; simp [K0.out, K1.out], X31.out.2⟩
  · go_wp2_with fail
    refine (c 2 _).mono ?_
    rintro e w31 ⟨rfl, hb⟩
    have X31 : Hid (At 40 w w31 #[.int .u64 (satp : Nat), .int .i64 kind, .int .i64 mode, .bool sum, .bool mxr]) := X13.out.step hb
    clear hb
    go_wp2_with fail
    refine (c 7 _).mono ?_
    rintro e w32 ⟨rfl, hb⟩
    have X32 : Hid (At 40 w w32 #[.int .u64 (satp : Nat), .int .i64 kind, .int .i64 mode, .bool sum, .bool mxr]) := X31.out.step hb
    clear hb
    go_wp2_with fail
    go_ret
    exact ⟨by rw [hR.out, hA]; simp [K0.out, K1.out], X32.out.2⟩
theorem allowed_any (satp : Nat) (kind mode : Int) (sum mxr : Bool) (x : Nat) (hx : x < 18446744073709551616) (W w : World) (hb : Below W.heap.size W w) : Calls Try.prog 72 #[.agg #[.int .u64 (satp : Nat), .int .i64 kind, .int .i64 mode, .bool sum, .bool mxr], .int .u64 (x : Nat)] w fun e w' => e = .returned (.bool (alwB kind mode sum mxr x)) ∧ Below W.heap.size W w' :=
  (allowed_core satp kind mode sum mxr x (tb x) w (fun i V => is_any x i hx V V (Below.refl _ _)) _ _ _ _ _ _ rfl rfl rfl rfl rfl rfl _ rfl).mono fun e w' ⟨he, hw⟩ => ⟨he, hb.trans (hw.mono hb.size)⟩
end Go.Proofs.Ytalgidnmmghejaa
