/- The law Sv39Rights: where a store may go a load may, too. -/
import Derived.Test.YtalgidnmmghejaaLy
namespace Go.Proofs.Ytalgidnmmghejaa
open Go.RowKit Go.Maps
set_option linter.unusedVariables false
set_option linter.unusedSimpArgs false
set_option maxRecDepth 100000
set_option maxHeartbeats 40000000 in
theorem rights_long (av : Option Addr) (len cap : Nat) (ws : Nat → Nat × Nat) (satp : Nat) (kind mode : Int) (sum mxr : Bool) (hsat : satp < 18446744073709551616) (va : Nat) (hva : va < 18446744073709551616) (w : World) (hlen : 60 < len) : Calls Try.prog 6 #[.slice av len cap, .agg #[.int .u64 (satp : Nat), .int .i64 kind, .int .i64 mode, .bool sum, .bool mxr], .int .u64 (va : Int)] w fun e w' => e = .returned (.bool true) ∧ Below w.heap.size w w' := by
  have X0 : Hid (At 25 w (w.alloc (.cells #[.int .u64 (satp : Nat), .int .i64 kind, .int .i64 mode, .bool sum, .bool mxr] 25)) #[.int .u64 (satp : Nat), .int .i64 kind, .int .i64 mode, .bool sum, .bool mxr]) := At.new _ _ _
  go_enter Try.func6, Try.ntmps6
  go_upto_region 1 with fail
  generalize (w.alloc (.cells #[.int .u64 (satp : Nat), .int .i64 kind, .int .i64 mode, .bool sum, .bool mxr] 25)) = V0 at *
  go_wp2_with fail
  refine (awake_any _).mono ?_
  rintro e w1 ⟨rfl, hb⟩
  have X1 : Hid (At 25 w w1 #[.int .u64 (satp : Nat), .int .i64 kind, .int .i64 mode, .bool sum, .bool mxr]) := X0.out.step hb
  clear hb X0
  go_wp2_with fail
  refine (memory_long av len cap hlen _).mono ?_
  rintro e w2 ⟨rfl, hb⟩
  have X2 : Hid (At 25 w w2 #[.int .u64 (satp : Nat), .int .i64 kind, .int .i64 mode, .bool sum, .bool mxr]) := X1.out.step hb
  clear hb X1
  go_wp2_with fail
  go_ret
  exact ⟨rfl, X2.out.2.alloc X2.out.2.size _⟩
set_option maxHeartbeats 40000000 in
theorem rights_core (av : Option Addr) (len cap : Nat) (ws : Nat → Nat × Nat) (satp : Nat) (kind mode : Int) (sum mxr : Bool) (hsat : satp < 18446744073709551616) (va : Nat) (hva : va < 18446744073709551616) (w : World) (hws : PutsIn w (.slice av len cap) len ws) : Calls Try.prog 6 #[.slice av len cap, .agg #[.int .u64 (satp : Nat), .int .i64 kind, .int .i64 mode, .bool sum, .bool mxr], .int .u64 (va : Int)] w fun e w' => e = .returned (.bool true) ∧ Below w.heap.size w w' := by
  by_cases hlen : 60 < len
  · exact rights_long av len cap ws satp kind mode sum mxr hsat va hva w hlen
  have HW : Hid (PutsIn w (.slice av len cap) len ws ∧ len ≤ 60 ∧ satp < 18446744073709551616 ∧ va < 18446744073709551616) := ⟨hws, by omega, hsat, hva⟩
  clear hws hlen hsat hva
  have X0 : Hid (At 25 w (w.alloc (.cells #[.int .u64 (satp : Nat), .int .i64 kind, .int .i64 mode, .bool sum, .bool mxr] 25)) #[.int .u64 (satp : Nat), .int .i64 kind, .int .i64 mode, .bool sum, .bool mxr]) := At.new _ _ _
  go_enter Try.func6, Try.ntmps6
  go_upto_region 1 with fail
  generalize (w.alloc (.cells #[.int .u64 (satp : Nat), .int .i64 kind, .int .i64 mode, .bool sum, .bool mxr] 25)) = V0 at *
  go_wp2_with fail
  refine (awake_any _).mono ?_
  rintro e w1 ⟨rfl, hb⟩
  have X1 : Hid (At 25 w w1 #[.int .u64 (satp : Nat), .int .i64 kind, .int .i64 mode, .bool sum, .bool mxr]) := X0.out.step hb
  clear hb X0
  go_wp2_with fail
  refine (memory_any av len cap ws HW.out.2.1 _ (HW.out.1.below X1.out.2)).mono ?_
  rintro e w2 ⟨rb, F, a, n, c, M, rfl, hB, -, hb⟩
  have X2 : Hid (At 25 w w2 #[.int .u64 (satp : Nat), .int .i64 kind, .int .i64 mode, .bool sum, .bool mxr] ∧ Both F w2 rb 32768 (.slice a n c) 480 M) := ⟨X1.out.step hb, hB⟩
  clear hb hB X1
  go_upto_region 4 with fail
  have X3 : Hid (Sta w (w2.alloc (.cells #[.int .u64 32768, .slice a n c] 30)) w2.heap.size rb satp kind mode sum mxr a n c F M) := by
    have hn : Below w2.heap.size w2 (w2.alloc (.cells #[.int .u64 32768, .slice a n c] 30)) := (Below.refl _ _).alloc (Nat.le_refl _) _
    exact ⟨X2.out.1.step hn, heap_alloc_new w2 _, X2.out.2.below hn⟩
  clear X2
  generalize w2.heap.size = bb at *
  generalize w2.alloc (.cells #[.int .u64 32768, .slice a n c] 30) = V3 at *
  have f0 := cellOf X3.out.1.1 0 _ rfl
  have f1 := cellOf X3.out.1.1 1 _ rfl
  have f2 := cellOf X3.out.1.1 2 _ rfl
  have f3 := cellOf X3.out.1.1 3 _ rfl
  have f4 := cellOf X3.out.1.1 4 _ rfl
  by_cases hm : mode = 0 ∨ mode = 1
  case neg =>
    have m0 : (mode == 0) = false := by simp; omega
    have m1 : (mode == 1) = false := by simp; omega
    have n0 : (mode != 0) = true := by simp; omega
    have n1 : (mode != 1) = true := by simp; omega
    have q0 : ¬ mode = 0 := by omega
    have q1 : ¬ mode = 1 := by omega
    clear hm
    go_wp2_with fail
    go_ret
    exact ⟨rfl, X3.out.1.2⟩
  have HM : Hid (mode = 0 ∨ mode = 1) := hm
  clear hm
  have X4 : Hid (Sg w V3 F rb M satp kind mode sum mxr []) := ⟨⟨X3.out.1, X3.out.2.2.1⟩, trivial⟩
  clear X3
  go_cut [35] (fun x wx => x = .bool false ∧ wx = V3)
  case first =>
    rcases HM.out with hm | hm
    · have m0 : (mode == 0) = true := by simp [hm]
      have n0 : (mode != 0) = false := by simp [hm]
      have H0 : Hid (mode = 0) := hm
      clear hm
      go_wp2_with fail
      go_meet
      exact ⟨by simp [H0.out], rfl⟩
    · have m0 : (mode == 0) = false := by simp [hm]
      have m1 : (mode == 1) = true := by simp [hm]
      have n0 : (mode != 0) = true := by simp [hm]
      have n1 : (mode != 1) = false := by simp [hm]
      have H0 : Hid (mode = 1) := hm
      clear hm
      go_wp2_with fail
      go_meet
      exact ⟨by simp [H0.out], rfl⟩
  case rest =>
  obtain ⟨rfl, hwc⟩ := hcut
  rw [hwc]
  clear hwc f0 f1 f2 f3 f4
  generalize V3 = V4 at *
  obtain ⟨⟨a0, a1, a2, a3⟩, ha⟩ : ∃ r : Res, walkR M 32768 satp 2 mode sum mxr va = r := ⟨_, rfl⟩
  obtain ⟨⟨b0, b1, b2, b3⟩, hb⟩ : ∃ r : Res, walkR M 32768 satp 1 mode sum mxr va = r := ⟨_, rfl⟩
  obtain ⟨⟨c0, c1, c2, c3⟩, hc⟩ : ∃ r : Res, walkR M 32768 satp 1 0 sum mxr va = r := ⟨_, rfl⟩
  obtain ⟨⟨d0, d1, d2, d3⟩, hd⟩ : ∃ r : Res, walkR M 32768 satp 1 1 true mxr va = r := ⟨_, rfl⟩
  have HAB : Hid (a1 = false → a0 = b0 ∧ b1 = false) := fun h => by
    have h1 := more_walk (store_load mode sum mxr) M 32768 satp va rfl (by rw [ha]; exact h)
    rw [ha, hb] at h1
    simp only [Prod.mk.injEq] at h1
    exact ⟨h1.1.symm, by rw [h1.2.1]; exact h⟩
  have HCD : Hid (c1 = false → c0 = d0 ∧ d1 = false) := fun h => by
    have h1 := more_walk (user_super sum mxr) M 32768 satp va (bare_low satp 0 1 (by omega) (by omega)) (by rw [hc]; exact h)
    rw [hc, hd] at h1
    simp only [Prod.mk.injEq] at h1
    exact ⟨h1.1.symm, by rw [h1.2.1]; exact h⟩
  have ca : ∀ V, RamAt V F rb 32768 480 (.pointer none) M → Calls Try.prog 12 #[.pointer (some ⟨rb, 0, none⟩), .agg #[.int .u64 (satp : Nat), .int .i64 2, .int .i64 mode, .bool sum, .bool mxr], .int .u64 (va : Int)] V fun e w' => e = .returned (.agg #[.int .u64 (a0 : Nat), .bool a1, .bool a2, .int .i64 (a3 : Nat)]) ∧ Below V.heap.size V w' := fun V h => by
    have := walk_any satp 2 mode sum mxr va HW.out.2.2.1 HW.out.2.2.2 h (by omega)
    rw [ha] at this
    exact this
  have cb : ∀ V, RamAt V F rb 32768 480 (.pointer none) M → Calls Try.prog 12 #[.pointer (some ⟨rb, 0, none⟩), .agg #[.int .u64 (satp : Nat), .int .i64 1, .int .i64 mode, .bool sum, .bool mxr], .int .u64 (va : Int)] V fun e w' => e = .returned (.agg #[.int .u64 (b0 : Nat), .bool b1, .bool b2, .int .i64 (b3 : Nat)]) ∧ Below V.heap.size V w' := fun V h => by
    have := walk_any satp 1 mode sum mxr va HW.out.2.2.1 HW.out.2.2.2 h (by omega)
    rw [hb] at this
    exact this
  have cc : ∀ V, RamAt V F rb 32768 480 (.pointer none) M → Calls Try.prog 12 #[.pointer (some ⟨rb, 0, none⟩), .agg #[.int .u64 (satp : Nat), .int .i64 1, .int .i64 0, .bool sum, .bool mxr], .int .u64 (va : Int)] V fun e w' => e = .returned (.agg #[.int .u64 (c0 : Nat), .bool c1, .bool c2, .int .i64 (c3 : Nat)]) ∧ Below V.heap.size V w' := fun V h => by
    have := walk_any satp 1 0 sum mxr va HW.out.2.2.1 HW.out.2.2.2 h (by omega)
    rw [hc] at this
    exact this
  have cd : ∀ V, RamAt V F rb 32768 480 (.pointer none) M → Calls Try.prog 12 #[.pointer (some ⟨rb, 0, none⟩), .agg #[.int .u64 (satp : Nat), .int .i64 1, .int .i64 1, .bool true, .bool mxr], .int .u64 (va : Int)] V fun e w' => e = .returned (.agg #[.int .u64 (d0 : Nat), .bool d1, .bool d2, .int .i64 (d3 : Nat)]) ∧ Below V.heap.size V w' := fun V h => by
    have := walk_any satp 1 1 true mxr va HW.out.2.2.1 HW.out.2.2.2 h (by omega)
    rw [hd] at this
    exact this
  have cw : ∀ V, Calls Try.prog 13 #[.agg #[.int .u64 (satp : Nat), .int .i64 kind, .int .i64 mode, .bool sum, .bool mxr]] V fun e w' => e = .returned (.agg #[.int .u64 (satp : Nat), .int .i64 kind, .int .i64 mode, .bool sum, .bool mxr]) ∧ Below V.heap.size V w' := fun V => way_any satp kind mode sum mxr V V (Below.refl _ _)
  clear ha hb hc hd HM HW
  go_upto_region 6 with fail
  go_cut [9, 10] (fun x y wx => ∃ p9 p10 : Nat, x = .pointer (some ⟨p9, 0, none⟩) ∧ y = .pointer (some ⟨p10, 0, none⟩) ∧ Sg w wx F rb M satp kind mode sum mxr [(p10, 40, wc5 satp kind mode sum mxr), (p9, 40, wc5 satp kind mode sum mxr)])
  case first =>
    have Xd : Hid (Sg w V4.drew F rb M satp kind mode sum mxr []) := X4.out.drew
    refine wp_region_held_drew (S := fun V => V.cell? ⟨w.heap.size, 0, none⟩ = some (.int .u64 (satp : Nat)) ∧ V.cell? ⟨w.heap.size, 1, none⟩ = some (.int .i64 kind) ∧ V.cell? ⟨w.heap.size, 2, none⟩ = some (.int .i64 mode) ∧ V.cell? ⟨w.heap.size, 3, none⟩ = some (.bool sum) ∧ V.cell? ⟨w.heap.size, 4, none⟩ = some (.bool mxr)) (by kernel_rfl) ⟨cellOf Xd.out.1.1.1 0 _ rfl, cellOf Xd.out.1.1.1 1 _ rfl, cellOf Xd.out.1.1.1 2 _ rfl, cellOf Xd.out.1.1.1 3 _ rfl, cellOf Xd.out.1.1.1 4 _ rfl⟩ ?_
    intro hS
    generalize V4.drew = wd at *
    refine wpAnyH_take (i := 0) (v := ?_) rfl (by kernel_rfl) (by kernel_rfl) (by kernel_rfl) (fun _ _ _ h => h) (Or.inl ⟨by kernel_rfl, ?_⟩) hS ?_
    rotate_left
    · intro w hSw; (try dsimp only at hSw); go_simp; try (with_reducible rfl)
    (try simp only [Act.put, List.getElem_toArray, List.getElem_cons_succ, List.getElem_cons_zero, List.setIfInBounds_toArray, List.set_cons_zero, List.set_cons_succ])
    refine wpAnyH_take (i := 2) (v := ?_) rfl (by kernel_rfl) (by kernel_rfl) (by kernel_rfl) (fun _ _ _ h => h) (Or.inl ⟨by kernel_rfl, ?_⟩) hS ?_
    rotate_left
    · intro w hSw; (try dsimp only at hSw); go_simp; try (with_reducible rfl)
    (try simp only [Act.put, List.getElem_toArray, List.getElem_cons_succ, List.getElem_cons_zero, List.setIfInBounds_toArray, List.set_cons_zero, List.set_cons_succ])
    refine wpAnyH_ready (rs := [1, 4, 5]) (by kernel_rfl) (by simp) ?_
    refine AllReadyH.cons rfl (fun K1 hK1 => ?_) (AllReadyH.cons rfl (fun K1 hK1 => ?_) (AllReadyH.cons rfl (fun K1 hK1 => ?_) AllReadyH.nil))
    · go_simp
      refine (cw _).mono ?_
      rintro e w21 ⟨rfl, hb⟩
      have X21 : Hid (Sg w w21 F rb M satp kind mode sum mxr []) := Xd.out.step hb
      clear hb
      refine hK1.out _ _ ⟨cellOf X21.out.1.1.1 0 _ rfl, cellOf X21.out.1.1.1 1 _ rfl, cellOf X21.out.1.1.1 2 _ rfl, cellOf X21.out.1.1.1 3 _ rfl, cellOf X21.out.1.1.1 4 _ rfl⟩ (fun hS21 => ?_)
      clear hK1 K1 hS
      (try simp only [Act.put, List.getElem_toArray, List.getElem_cons_succ, List.getElem_cons_zero, List.setIfInBounds_toArray, List.set_cons_zero, List.set_cons_succ])
      refine wpAnyH_ready (rs := [3, 4, 5]) (by kernel_rfl) (by simp) ?_
      refine AllReadyH.cons rfl (fun K1 hK1 => ?_) (AllReadyH.cons rfl (fun K1 hK1 => ?_) (AllReadyH.cons rfl (fun K1 hK1 => ?_) AllReadyH.nil))
      · go_simp
        refine (cw _).mono ?_
        rintro e w22 ⟨rfl, hb⟩
        have X22 : Hid (Sg w w22 F rb M satp kind mode sum mxr []) := X21.out.step hb
        clear hb
        refine hK1.out _ _ ⟨cellOf X22.out.1.1.1 0 _ rfl, cellOf X22.out.1.1.1 1 _ rfl, cellOf X22.out.1.1.1 2 _ rfl, cellOf X22.out.1.1.1 3 _ rfl, cellOf X22.out.1.1.1 4 _ rfl⟩ (fun hS22 => ?_)
        clear hK1 K1 hS21
        (try simp only [Act.put, List.getElem_toArray, List.getElem_cons_succ, List.getElem_cons_zero, List.setIfInBounds_toArray, List.set_cons_zero, List.set_cons_succ])
        refine wpAnyH_ready (rs := [4, 5]) (by kernel_rfl) (by simp) ?_
        refine AllReadyH.cons rfl (fun K1 hK1 => ?_) (AllReadyH.cons rfl (fun K1 hK1 => ?_) AllReadyH.nil)
        · go_simp
          have X23 : Hid (Sg w (w22.alloc (.cells zw 40)) F rb M satp kind mode sum mxr [(w22.heap.size, 40, zw)]) := X22.out.alloc _ _
          refine hK1.out _ (w22.alloc (.cells zw 40)) ⟨cellOf X23.out.1.1.1 0 _ rfl, cellOf X23.out.1.1.1 1 _ rfl, cellOf X23.out.1.1.1 2 _ rfl, cellOf X23.out.1.1.1 3 _ rfl, cellOf X23.out.1.1.1 4 _ rfl⟩ (fun hS23 => ?_)
          clear hK1 K1 hS22
          (try simp only [Act.put, List.getElem_toArray, List.getElem_cons_succ, List.getElem_cons_zero, List.setIfInBounds_toArray, List.set_cons_zero, List.set_cons_succ])
          generalize w22.heap.size = p9 at *
          generalize w22.alloc (.cells zw 40) = w23 at *
          refine wpAnyH_ready (rs := [5]) (by kernel_rfl) (by simp) ?_
          refine AllReadyH.cons rfl (fun K1 hK1 => ?_) AllReadyH.nil
          go_simp
          have X24 : Hid (Sg w (w23.alloc (.cells zw 40)) F rb M satp kind mode sum mxr [(w23.heap.size, 40, zw), (p9, 40, zw)]) := X23.out.alloc _ _
          refine hK1.out _ (w23.alloc (.cells zw 40)) ⟨cellOf X24.out.1.1.1 0 _ rfl, cellOf X24.out.1.1.1 1 _ rfl, cellOf X24.out.1.1.1 2 _ rfl, cellOf X24.out.1.1.1 3 _ rfl, cellOf X24.out.1.1.1 4 _ rfl⟩ (fun hS24 => ?_)
          clear hK1 K1 hS23
          (try simp only [Act.put, List.getElem_toArray, List.getElem_cons_succ, List.getElem_cons_zero, List.setIfInBounds_toArray, List.set_cons_zero, List.set_cons_succ])
          generalize w23.heap.size = p10 at *
          generalize w23.alloc (.cells zw 40) = w24 at *
          refine wpAnyH_ready (rs := [6]) (by kernel_rfl) (by simp) ?_
          refine AllReadyH.cons rfl (fun K1 hK1 => ?_) AllReadyH.nil
          have y0 := X24.out.cell 1 rfl 0 _ rfl
          have z0 := X24.out.frozen 1 rfl 0
          have y1 := X24.out.cell 1 rfl 1 _ rfl
          have z1 := X24.out.frozen 1 rfl 1
          have y2 := X24.out.cell 1 rfl 2 _ rfl
          have z2 := X24.out.frozen 1 rfl 2
          have y3 := X24.out.cell 1 rfl 3 _ rfl
          have z3 := X24.out.frozen 1 rfl 3
          have y4 := X24.out.cell 1 rfl 4 _ rfl
          have z4 := X24.out.frozen 1 rfl 4
          have hset := Bx.set5 (X24.out.get 1 rfl) (.int .u64 (satp : Nat)) (.int .i64 kind) (.int .i64 mode) (.bool sum) (.bool mxr)
          have X25 : Hid (Sg w (((((w24.setCell ⟨p9, 0, none⟩ (.int .u64 (satp : Nat))).setCell ⟨p9, 1, none⟩ (.int .i64 kind)).setCell ⟨p9, 2, none⟩ (.int .i64 mode)).setCell ⟨p9, 3, none⟩ (.bool sum)).setCell ⟨p9, 4, none⟩ (.bool mxr)) F rb M satp kind mode sum mxr [(p10, 40, zw), (p9, 40, wc5 satp kind mode sum mxr)]) := X24.out.set 1 rfl hset.1.1 hset.2
          clear hset
          go_simp
          refine hK1.out _ (((((w24.setCell ⟨p9, 0, none⟩ (.int .u64 (satp : Nat))).setCell ⟨p9, 1, none⟩ (.int .i64 kind)).setCell ⟨p9, 2, none⟩ (.int .i64 mode)).setCell ⟨p9, 3, none⟩ (.bool sum)).setCell ⟨p9, 4, none⟩ (.bool mxr)) ⟨cellOf X25.out.1.1.1 0 _ rfl, cellOf X25.out.1.1.1 1 _ rfl, cellOf X25.out.1.1.1 2 _ rfl, cellOf X25.out.1.1.1 3 _ rfl, cellOf X25.out.1.1.1 4 _ rfl⟩ (fun hS25 => ?_)
          clear hK1 K1 hS24 y0 z0 y1 z1 y2 z2 y3 z3 y4 z4
          (try simp only [Act.put, List.getElem_toArray, List.getElem_cons_succ, List.getElem_cons_zero, List.setIfInBounds_toArray, List.set_cons_zero, List.set_cons_succ])
          generalize ((((w24.setCell ⟨p9, 0, none⟩ (.int .u64 (satp : Nat))).setCell ⟨p9, 1, none⟩ (.int .i64 kind)).setCell ⟨p9, 2, none⟩ (.int .i64 mode)).setCell ⟨p9, 3, none⟩ (.bool sum)).setCell ⟨p9, 4, none⟩ (.bool mxr) = w25 at *
          refine wpAnyH_ready (rs := [7]) (by kernel_rfl) (by simp) ?_
          refine AllReadyH.cons rfl (fun K1 hK1 => ?_) AllReadyH.nil
          have y0 := X25.out.cell 0 rfl 0 _ rfl
          have z0 := X25.out.frozen 0 rfl 0
          have y1 := X25.out.cell 0 rfl 1 _ rfl
          have z1 := X25.out.frozen 0 rfl 1
          have y2 := X25.out.cell 0 rfl 2 _ rfl
          have z2 := X25.out.frozen 0 rfl 2
          have y3 := X25.out.cell 0 rfl 3 _ rfl
          have z3 := X25.out.frozen 0 rfl 3
          have y4 := X25.out.cell 0 rfl 4 _ rfl
          have z4 := X25.out.frozen 0 rfl 4
          have hset := Bx.set5 (X25.out.get 0 rfl) (.int .u64 (satp : Nat)) (.int .i64 kind) (.int .i64 mode) (.bool sum) (.bool mxr)
          have X26 : Hid (Sg w (((((w25.setCell ⟨p10, 0, none⟩ (.int .u64 (satp : Nat))).setCell ⟨p10, 1, none⟩ (.int .i64 kind)).setCell ⟨p10, 2, none⟩ (.int .i64 mode)).setCell ⟨p10, 3, none⟩ (.bool sum)).setCell ⟨p10, 4, none⟩ (.bool mxr)) F rb M satp kind mode sum mxr [(p10, 40, wc5 satp kind mode sum mxr), (p9, 40, wc5 satp kind mode sum mxr)]) := X25.out.set 0 rfl hset.1.1 hset.2
          clear hset
          go_simp
          refine hK1.out _ (((((w25.setCell ⟨p10, 0, none⟩ (.int .u64 (satp : Nat))).setCell ⟨p10, 1, none⟩ (.int .i64 kind)).setCell ⟨p10, 2, none⟩ (.int .i64 mode)).setCell ⟨p10, 3, none⟩ (.bool sum)).setCell ⟨p10, 4, none⟩ (.bool mxr)) ⟨cellOf X26.out.1.1.1 0 _ rfl, cellOf X26.out.1.1.1 1 _ rfl, cellOf X26.out.1.1.1 2 _ rfl, cellOf X26.out.1.1.1 3 _ rfl, cellOf X26.out.1.1.1 4 _ rfl⟩ (fun hS26 => ?_)
          clear hK1 K1 hS25 y0 z0 y1 z1 y2 z2 y3 z3 y4 z4
          (try simp only [Act.put, List.getElem_toArray, List.getElem_cons_succ, List.getElem_cons_zero, List.setIfInBounds_toArray, List.set_cons_zero, List.set_cons_succ])
          generalize ((((w25.setCell ⟨p10, 0, none⟩ (.int .u64 (satp : Nat))).setCell ⟨p10, 1, none⟩ (.int .i64 kind)).setCell ⟨p10, 2, none⟩ (.int .i64 mode)).setCell ⟨p10, 3, none⟩ (.bool sum)).setCell ⟨p10, 4, none⟩ (.bool mxr) = w26 at *
          refine wpAnyH_done (by kernel_rfl) ?_ _
          clear hS26
          go_wp2_with fail
          go_meet
          exact ⟨p9, p10, rfl, rfl, X26.out⟩
        · go_simp
          have X23 : Hid (Sg w (w22.alloc (.cells zw 40)) F rb M satp kind mode sum mxr [(w22.heap.size, 40, zw)]) := X22.out.alloc _ _
          refine hK1.out _ (w22.alloc (.cells zw 40)) ⟨cellOf X23.out.1.1.1 0 _ rfl, cellOf X23.out.1.1.1 1 _ rfl, cellOf X23.out.1.1.1 2 _ rfl, cellOf X23.out.1.1.1 3 _ rfl, cellOf X23.out.1.1.1 4 _ rfl⟩ (fun hS23 => ?_)
          clear hK1 K1 hS22
          (try simp only [Act.put, List.getElem_toArray, List.getElem_cons_succ, List.getElem_cons_zero, List.setIfInBounds_toArray, List.set_cons_zero, List.set_cons_succ])
          generalize w22.heap.size = p10 at *
          generalize w22.alloc (.cells zw 40) = w23 at *
          refine wpAnyH_ready (rs := [4]) (by kernel_rfl) (by simp) ?_
          refine AllReadyH.cons rfl (fun K1 hK1 => ?_) AllReadyH.nil
          go_simp
          have X24 : Hid (Sg w (w23.alloc (.cells zw 40)) F rb M satp kind mode sum mxr [(w23.heap.size, 40, zw), (p10, 40, zw)]) := X23.out.alloc _ _
          refine hK1.out _ (w23.alloc (.cells zw 40)) ⟨cellOf X24.out.1.1.1 0 _ rfl, cellOf X24.out.1.1.1 1 _ rfl, cellOf X24.out.1.1.1 2 _ rfl, cellOf X24.out.1.1.1 3 _ rfl, cellOf X24.out.1.1.1 4 _ rfl⟩ (fun hS24 => ?_)
          clear hK1 K1 hS23
          (try simp only [Act.put, List.getElem_toArray, List.getElem_cons_succ, List.getElem_cons_zero, List.setIfInBounds_toArray, List.set_cons_zero, List.set_cons_succ])
          generalize w23.heap.size = p9 at *
          generalize w23.alloc (.cells zw 40) = w24 at *
          refine wpAnyH_ready (rs := [6]) (by kernel_rfl) (by simp) ?_
          refine AllReadyH.cons rfl (fun K1 hK1 => ?_) AllReadyH.nil
          have y0 := X24.out.cell 0 rfl 0 _ rfl
          have z0 := X24.out.frozen 0 rfl 0
          have y1 := X24.out.cell 0 rfl 1 _ rfl
          have z1 := X24.out.frozen 0 rfl 1
          have y2 := X24.out.cell 0 rfl 2 _ rfl
          have z2 := X24.out.frozen 0 rfl 2
          have y3 := X24.out.cell 0 rfl 3 _ rfl
          have z3 := X24.out.frozen 0 rfl 3
          have y4 := X24.out.cell 0 rfl 4 _ rfl
          have z4 := X24.out.frozen 0 rfl 4
          have hset := Bx.set5 (X24.out.get 0 rfl) (.int .u64 (satp : Nat)) (.int .i64 kind) (.int .i64 mode) (.bool sum) (.bool mxr)
          have X25 : Hid (Sg w (((((w24.setCell ⟨p9, 0, none⟩ (.int .u64 (satp : Nat))).setCell ⟨p9, 1, none⟩ (.int .i64 kind)).setCell ⟨p9, 2, none⟩ (.int .i64 mode)).setCell ⟨p9, 3, none⟩ (.bool sum)).setCell ⟨p9, 4, none⟩ (.bool mxr)) F rb M satp kind mode sum mxr [(p9, 40, wc5 satp kind mode sum mxr), (p10, 40, zw)]) := X24.out.set 0 rfl hset.1.1 hset.2
          clear hset
          go_simp
          refine hK1.out _ (((((w24.setCell ⟨p9, 0, none⟩ (.int .u64 (satp : Nat))).setCell ⟨p9, 1, none⟩ (.int .i64 kind)).setCell ⟨p9, 2, none⟩ (.int .i64 mode)).setCell ⟨p9, 3, none⟩ (.bool sum)).setCell ⟨p9, 4, none⟩ (.bool mxr)) ⟨cellOf X25.out.1.1.1 0 _ rfl, cellOf X25.out.1.1.1 1 _ rfl, cellOf X25.out.1.1.1 2 _ rfl, cellOf X25.out.1.1.1 3 _ rfl, cellOf X25.out.1.1.1 4 _ rfl⟩ (fun hS25 => ?_)
          clear hK1 K1 hS24 y0 z0 y1 z1 y2 z2 y3 z3 y4 z4
          (try simp only [Act.put, List.getElem_toArray, List.getElem_cons_succ, List.getElem_cons_zero, List.setIfInBounds_toArray, List.set_cons_zero, List.set_cons_succ])
          generalize ((((w24.setCell ⟨p9, 0, none⟩ (.int .u64 (satp : Nat))).setCell ⟨p9, 1, none⟩ (.int .i64 kind)).setCell ⟨p9, 2, none⟩ (.int .i64 mode)).setCell ⟨p9, 3, none⟩ (.bool sum)).setCell ⟨p9, 4, none⟩ (.bool mxr) = w25 at *
          refine wpAnyH_ready (rs := [7]) (by kernel_rfl) (by simp) ?_
          refine AllReadyH.cons rfl (fun K1 hK1 => ?_) AllReadyH.nil
          have y0 := X25.out.cell 1 rfl 0 _ rfl
          have z0 := X25.out.frozen 1 rfl 0
          have y1 := X25.out.cell 1 rfl 1 _ rfl
          have z1 := X25.out.frozen 1 rfl 1
          have y2 := X25.out.cell 1 rfl 2 _ rfl
          have z2 := X25.out.frozen 1 rfl 2
          have y3 := X25.out.cell 1 rfl 3 _ rfl
          have z3 := X25.out.frozen 1 rfl 3
          have y4 := X25.out.cell 1 rfl 4 _ rfl
          have z4 := X25.out.frozen 1 rfl 4
          have hset := Bx.set5 (X25.out.get 1 rfl) (.int .u64 (satp : Nat)) (.int .i64 kind) (.int .i64 mode) (.bool sum) (.bool mxr)
          have X26 : Hid (Sg w (((((w25.setCell ⟨p10, 0, none⟩ (.int .u64 (satp : Nat))).setCell ⟨p10, 1, none⟩ (.int .i64 kind)).setCell ⟨p10, 2, none⟩ (.int .i64 mode)).setCell ⟨p10, 3, none⟩ (.bool sum)).setCell ⟨p10, 4, none⟩ (.bool mxr)) F rb M satp kind mode sum mxr [(p9, 40, wc5 satp kind mode sum mxr), (p10, 40, wc5 satp kind mode sum mxr)]) := X25.out.set 1 rfl hset.1.1 hset.2
          clear hset
          go_simp
          refine hK1.out _ (((((w25.setCell ⟨p10, 0, none⟩ (.int .u64 (satp : Nat))).setCell ⟨p10, 1, none⟩ (.int .i64 kind)).setCell ⟨p10, 2, none⟩ (.int .i64 mode)).setCell ⟨p10, 3, none⟩ (.bool sum)).setCell ⟨p10, 4, none⟩ (.bool mxr)) ⟨cellOf X26.out.1.1.1 0 _ rfl, cellOf X26.out.1.1.1 1 _ rfl, cellOf X26.out.1.1.1 2 _ rfl, cellOf X26.out.1.1.1 3 _ rfl, cellOf X26.out.1.1.1 4 _ rfl⟩ (fun hS26 => ?_)
          clear hK1 K1 hS25 y0 z0 y1 z1 y2 z2 y3 z3 y4 z4
          (try simp only [Act.put, List.getElem_toArray, List.getElem_cons_succ, List.getElem_cons_zero, List.setIfInBounds_toArray, List.set_cons_zero, List.set_cons_succ])
          generalize ((((w25.setCell ⟨p10, 0, none⟩ (.int .u64 (satp : Nat))).setCell ⟨p10, 1, none⟩ (.int .i64 kind)).setCell ⟨p10, 2, none⟩ (.int .i64 mode)).setCell ⟨p10, 3, none⟩ (.bool sum)).setCell ⟨p10, 4, none⟩ (.bool mxr) = w26 at *
          refine wpAnyH_done (by kernel_rfl) ?_ _
          clear hS26
          go_wp2_with fail
          go_meet
          exact ⟨p9, p10, rfl, rfl, X26.out.swap⟩
      · go_simp
        have X22 : Hid (Sg w (w21.alloc (.cells zw 40)) F rb M satp kind mode sum mxr [(w21.heap.size, 40, zw)]) := X21.out.alloc _ _
        refine hK1.out _ (w21.alloc (.cells zw 40)) ⟨cellOf X22.out.1.1.1 0 _ rfl, cellOf X22.out.1.1.1 1 _ rfl, cellOf X22.out.1.1.1 2 _ rfl, cellOf X22.out.1.1.1 3 _ rfl, cellOf X22.out.1.1.1 4 _ rfl⟩ (fun hS22 => ?_)
        clear hK1 K1 hS21
        (try simp only [Act.put, List.getElem_toArray, List.getElem_cons_succ, List.getElem_cons_zero, List.setIfInBounds_toArray, List.set_cons_zero, List.set_cons_succ])
        generalize w21.heap.size = p9 at *
        generalize w21.alloc (.cells zw 40) = w22 at *
        refine wpAnyH_ready (rs := [3, 5]) (by kernel_rfl) (by simp) ?_
        refine AllReadyH.cons rfl (fun K1 hK1 => ?_) (AllReadyH.cons rfl (fun K1 hK1 => ?_) AllReadyH.nil)
        · go_simp
          refine (cw _).mono ?_
          rintro e w23 ⟨rfl, hb⟩
          have X23 : Hid (Sg w w23 F rb M satp kind mode sum mxr [(p9, 40, zw)]) := X22.out.step hb
          clear hb
          refine hK1.out _ _ ⟨cellOf X23.out.1.1.1 0 _ rfl, cellOf X23.out.1.1.1 1 _ rfl, cellOf X23.out.1.1.1 2 _ rfl, cellOf X23.out.1.1.1 3 _ rfl, cellOf X23.out.1.1.1 4 _ rfl⟩ (fun hS23 => ?_)
          clear hK1 K1 hS22
          (try simp only [Act.put, List.getElem_toArray, List.getElem_cons_succ, List.getElem_cons_zero, List.setIfInBounds_toArray, List.set_cons_zero, List.set_cons_succ])
          refine wpAnyH_ready (rs := [5]) (by kernel_rfl) (by simp) ?_
          refine AllReadyH.cons rfl (fun K1 hK1 => ?_) AllReadyH.nil
          go_simp
          have X24 : Hid (Sg w (w23.alloc (.cells zw 40)) F rb M satp kind mode sum mxr [(w23.heap.size, 40, zw), (p9, 40, zw)]) := X23.out.alloc _ _
          refine hK1.out _ (w23.alloc (.cells zw 40)) ⟨cellOf X24.out.1.1.1 0 _ rfl, cellOf X24.out.1.1.1 1 _ rfl, cellOf X24.out.1.1.1 2 _ rfl, cellOf X24.out.1.1.1 3 _ rfl, cellOf X24.out.1.1.1 4 _ rfl⟩ (fun hS24 => ?_)
          clear hK1 K1 hS23
          (try simp only [Act.put, List.getElem_toArray, List.getElem_cons_succ, List.getElem_cons_zero, List.setIfInBounds_toArray, List.set_cons_zero, List.set_cons_succ])
          generalize w23.heap.size = p10 at *
          generalize w23.alloc (.cells zw 40) = w24 at *
          refine wpAnyH_ready (rs := [6]) (by kernel_rfl) (by simp) ?_
          refine AllReadyH.cons rfl (fun K1 hK1 => ?_) AllReadyH.nil
          have y0 := X24.out.cell 1 rfl 0 _ rfl
          have z0 := X24.out.frozen 1 rfl 0
          have y1 := X24.out.cell 1 rfl 1 _ rfl
          have z1 := X24.out.frozen 1 rfl 1
          have y2 := X24.out.cell 1 rfl 2 _ rfl
          have z2 := X24.out.frozen 1 rfl 2
          have y3 := X24.out.cell 1 rfl 3 _ rfl
          have z3 := X24.out.frozen 1 rfl 3
          have y4 := X24.out.cell 1 rfl 4 _ rfl
          have z4 := X24.out.frozen 1 rfl 4
          have hset := Bx.set5 (X24.out.get 1 rfl) (.int .u64 (satp : Nat)) (.int .i64 kind) (.int .i64 mode) (.bool sum) (.bool mxr)
          have X25 : Hid (Sg w (((((w24.setCell ⟨p9, 0, none⟩ (.int .u64 (satp : Nat))).setCell ⟨p9, 1, none⟩ (.int .i64 kind)).setCell ⟨p9, 2, none⟩ (.int .i64 mode)).setCell ⟨p9, 3, none⟩ (.bool sum)).setCell ⟨p9, 4, none⟩ (.bool mxr)) F rb M satp kind mode sum mxr [(p10, 40, zw), (p9, 40, wc5 satp kind mode sum mxr)]) := X24.out.set 1 rfl hset.1.1 hset.2
          clear hset
          go_simp
          refine hK1.out _ (((((w24.setCell ⟨p9, 0, none⟩ (.int .u64 (satp : Nat))).setCell ⟨p9, 1, none⟩ (.int .i64 kind)).setCell ⟨p9, 2, none⟩ (.int .i64 mode)).setCell ⟨p9, 3, none⟩ (.bool sum)).setCell ⟨p9, 4, none⟩ (.bool mxr)) ⟨cellOf X25.out.1.1.1 0 _ rfl, cellOf X25.out.1.1.1 1 _ rfl, cellOf X25.out.1.1.1 2 _ rfl, cellOf X25.out.1.1.1 3 _ rfl, cellOf X25.out.1.1.1 4 _ rfl⟩ (fun hS25 => ?_)
          clear hK1 K1 hS24 y0 z0 y1 z1 y2 z2 y3 z3 y4 z4
          (try simp only [Act.put, List.getElem_toArray, List.getElem_cons_succ, List.getElem_cons_zero, List.setIfInBounds_toArray, List.set_cons_zero, List.set_cons_succ])
          generalize ((((w24.setCell ⟨p9, 0, none⟩ (.int .u64 (satp : Nat))).setCell ⟨p9, 1, none⟩ (.int .i64 kind)).setCell ⟨p9, 2, none⟩ (.int .i64 mode)).setCell ⟨p9, 3, none⟩ (.bool sum)).setCell ⟨p9, 4, none⟩ (.bool mxr) = w25 at *
          refine wpAnyH_ready (rs := [7]) (by kernel_rfl) (by simp) ?_
          refine AllReadyH.cons rfl (fun K1 hK1 => ?_) AllReadyH.nil
          have y0 := X25.out.cell 0 rfl 0 _ rfl
          have z0 := X25.out.frozen 0 rfl 0
          have y1 := X25.out.cell 0 rfl 1 _ rfl
          have z1 := X25.out.frozen 0 rfl 1
          have y2 := X25.out.cell 0 rfl 2 _ rfl
          have z2 := X25.out.frozen 0 rfl 2
          have y3 := X25.out.cell 0 rfl 3 _ rfl
          have z3 := X25.out.frozen 0 rfl 3
          have y4 := X25.out.cell 0 rfl 4 _ rfl
          have z4 := X25.out.frozen 0 rfl 4
          have hset := Bx.set5 (X25.out.get 0 rfl) (.int .u64 (satp : Nat)) (.int .i64 kind) (.int .i64 mode) (.bool sum) (.bool mxr)
          have X26 : Hid (Sg w (((((w25.setCell ⟨p10, 0, none⟩ (.int .u64 (satp : Nat))).setCell ⟨p10, 1, none⟩ (.int .i64 kind)).setCell ⟨p10, 2, none⟩ (.int .i64 mode)).setCell ⟨p10, 3, none⟩ (.bool sum)).setCell ⟨p10, 4, none⟩ (.bool mxr)) F rb M satp kind mode sum mxr [(p10, 40, wc5 satp kind mode sum mxr), (p9, 40, wc5 satp kind mode sum mxr)]) := X25.out.set 0 rfl hset.1.1 hset.2
          clear hset
          go_simp
          refine hK1.out _ (((((w25.setCell ⟨p10, 0, none⟩ (.int .u64 (satp : Nat))).setCell ⟨p10, 1, none⟩ (.int .i64 kind)).setCell ⟨p10, 2, none⟩ (.int .i64 mode)).setCell ⟨p10, 3, none⟩ (.bool sum)).setCell ⟨p10, 4, none⟩ (.bool mxr)) ⟨cellOf X26.out.1.1.1 0 _ rfl, cellOf X26.out.1.1.1 1 _ rfl, cellOf X26.out.1.1.1 2 _ rfl, cellOf X26.out.1.1.1 3 _ rfl, cellOf X26.out.1.1.1 4 _ rfl⟩ (fun hS26 => ?_)
          clear hK1 K1 hS25 y0 z0 y1 z1 y2 z2 y3 z3 y4 z4
          (try simp only [Act.put, List.getElem_toArray, List.getElem_cons_succ, List.getElem_cons_zero, List.setIfInBounds_toArray, List.set_cons_zero, List.set_cons_succ])
          generalize ((((w25.setCell ⟨p10, 0, none⟩ (.int .u64 (satp : Nat))).setCell ⟨p10, 1, none⟩ (.int .i64 kind)).setCell ⟨p10, 2, none⟩ (.int .i64 mode)).setCell ⟨p10, 3, none⟩ (.bool sum)).setCell ⟨p10, 4, none⟩ (.bool mxr) = w26 at *
          refine wpAnyH_done (by kernel_rfl) ?_ _
          clear hS26
          go_wp2_with fail
          go_meet
          exact ⟨p9, p10, rfl, rfl, X26.out⟩
        · go_simp
          have X23 : Hid (Sg w (w22.alloc (.cells zw 40)) F rb M satp kind mode sum mxr [(w22.heap.size, 40, zw), (p9, 40, zw)]) := X22.out.alloc _ _
          refine hK1.out _ (w22.alloc (.cells zw 40)) ⟨cellOf X23.out.1.1.1 0 _ rfl, cellOf X23.out.1.1.1 1 _ rfl, cellOf X23.out.1.1.1 2 _ rfl, cellOf X23.out.1.1.1 3 _ rfl, cellOf X23.out.1.1.1 4 _ rfl⟩ (fun hS23 => ?_)
          clear hK1 K1 hS22
          (try simp only [Act.put, List.getElem_toArray, List.getElem_cons_succ, List.getElem_cons_zero, List.setIfInBounds_toArray, List.set_cons_zero, List.set_cons_succ])
          generalize w22.heap.size = p10 at *
          generalize w22.alloc (.cells zw 40) = w23 at *
          refine wpAnyH_ready (rs := [3]) (by kernel_rfl) (by simp) ?_
          refine AllReadyH.cons rfl (fun K1 hK1 => ?_) AllReadyH.nil
          go_simp
          refine (cw _).mono ?_
          rintro e w24 ⟨rfl, hb⟩
          have X24 : Hid (Sg w w24 F rb M satp kind mode sum mxr [(p10, 40, zw), (p9, 40, zw)]) := X23.out.step hb
          clear hb
          refine hK1.out _ _ ⟨cellOf X24.out.1.1.1 0 _ rfl, cellOf X24.out.1.1.1 1 _ rfl, cellOf X24.out.1.1.1 2 _ rfl, cellOf X24.out.1.1.1 3 _ rfl, cellOf X24.out.1.1.1 4 _ rfl⟩ (fun hS24 => ?_)
          clear hK1 K1 hS23
          (try simp only [Act.put, List.getElem_toArray, List.getElem_cons_succ, List.getElem_cons_zero, List.setIfInBounds_toArray, List.set_cons_zero, List.set_cons_succ])
          refine wpAnyH_ready (rs := [6]) (by kernel_rfl) (by simp) ?_
          refine AllReadyH.cons rfl (fun K1 hK1 => ?_) AllReadyH.nil
          have y0 := X24.out.cell 1 rfl 0 _ rfl
          have z0 := X24.out.frozen 1 rfl 0
          have y1 := X24.out.cell 1 rfl 1 _ rfl
          have z1 := X24.out.frozen 1 rfl 1
          have y2 := X24.out.cell 1 rfl 2 _ rfl
          have z2 := X24.out.frozen 1 rfl 2
          have y3 := X24.out.cell 1 rfl 3 _ rfl
          have z3 := X24.out.frozen 1 rfl 3
          have y4 := X24.out.cell 1 rfl 4 _ rfl
          have z4 := X24.out.frozen 1 rfl 4
          have hset := Bx.set5 (X24.out.get 1 rfl) (.int .u64 (satp : Nat)) (.int .i64 kind) (.int .i64 mode) (.bool sum) (.bool mxr)
          have X25 : Hid (Sg w (((((w24.setCell ⟨p9, 0, none⟩ (.int .u64 (satp : Nat))).setCell ⟨p9, 1, none⟩ (.int .i64 kind)).setCell ⟨p9, 2, none⟩ (.int .i64 mode)).setCell ⟨p9, 3, none⟩ (.bool sum)).setCell ⟨p9, 4, none⟩ (.bool mxr)) F rb M satp kind mode sum mxr [(p10, 40, zw), (p9, 40, wc5 satp kind mode sum mxr)]) := X24.out.set 1 rfl hset.1.1 hset.2
          clear hset
          go_simp
          refine hK1.out _ (((((w24.setCell ⟨p9, 0, none⟩ (.int .u64 (satp : Nat))).setCell ⟨p9, 1, none⟩ (.int .i64 kind)).setCell ⟨p9, 2, none⟩ (.int .i64 mode)).setCell ⟨p9, 3, none⟩ (.bool sum)).setCell ⟨p9, 4, none⟩ (.bool mxr)) ⟨cellOf X25.out.1.1.1 0 _ rfl, cellOf X25.out.1.1.1 1 _ rfl, cellOf X25.out.1.1.1 2 _ rfl, cellOf X25.out.1.1.1 3 _ rfl, cellOf X25.out.1.1.1 4 _ rfl⟩ (fun hS25 => ?_)
          clear hK1 K1 hS24 y0 z0 y1 z1 y2 z2 y3 z3 y4 z4
          (try simp only [Act.put, List.getElem_toArray, List.getElem_cons_succ, List.getElem_cons_zero, List.setIfInBounds_toArray, List.set_cons_zero, List.set_cons_succ])
          generalize ((((w24.setCell ⟨p9, 0, none⟩ (.int .u64 (satp : Nat))).setCell ⟨p9, 1, none⟩ (.int .i64 kind)).setCell ⟨p9, 2, none⟩ (.int .i64 mode)).setCell ⟨p9, 3, none⟩ (.bool sum)).setCell ⟨p9, 4, none⟩ (.bool mxr) = w25 at *
          refine wpAnyH_ready (rs := [7]) (by kernel_rfl) (by simp) ?_
          refine AllReadyH.cons rfl (fun K1 hK1 => ?_) AllReadyH.nil
          have y0 := X25.out.cell 0 rfl 0 _ rfl
          have z0 := X25.out.frozen 0 rfl 0
          have y1 := X25.out.cell 0 rfl 1 _ rfl
          have z1 := X25.out.frozen 0 rfl 1
          have y2 := X25.out.cell 0 rfl 2 _ rfl
          have z2 := X25.out.frozen 0 rfl 2
          have y3 := X25.out.cell 0 rfl 3 _ rfl
          have z3 := X25.out.frozen 0 rfl 3
          have y4 := X25.out.cell 0 rfl 4 _ rfl
          have z4 := X25.out.frozen 0 rfl 4
          have hset := Bx.set5 (X25.out.get 0 rfl) (.int .u64 (satp : Nat)) (.int .i64 kind) (.int .i64 mode) (.bool sum) (.bool mxr)
          have X26 : Hid (Sg w (((((w25.setCell ⟨p10, 0, none⟩ (.int .u64 (satp : Nat))).setCell ⟨p10, 1, none⟩ (.int .i64 kind)).setCell ⟨p10, 2, none⟩ (.int .i64 mode)).setCell ⟨p10, 3, none⟩ (.bool sum)).setCell ⟨p10, 4, none⟩ (.bool mxr)) F rb M satp kind mode sum mxr [(p10, 40, wc5 satp kind mode sum mxr), (p9, 40, wc5 satp kind mode sum mxr)]) := X25.out.set 0 rfl hset.1.1 hset.2
          clear hset
          go_simp
          refine hK1.out _ (((((w25.setCell ⟨p10, 0, none⟩ (.int .u64 (satp : Nat))).setCell ⟨p10, 1, none⟩ (.int .i64 kind)).setCell ⟨p10, 2, none⟩ (.int .i64 mode)).setCell ⟨p10, 3, none⟩ (.bool sum)).setCell ⟨p10, 4, none⟩ (.bool mxr)) ⟨cellOf X26.out.1.1.1 0 _ rfl, cellOf X26.out.1.1.1 1 _ rfl, cellOf X26.out.1.1.1 2 _ rfl, cellOf X26.out.1.1.1 3 _ rfl, cellOf X26.out.1.1.1 4 _ rfl⟩ (fun hS26 => ?_)
          clear hK1 K1 hS25 y0 z0 y1 z1 y2 z2 y3 z3 y4 z4
          (try simp only [Act.put, List.getElem_toArray, List.getElem_cons_succ, List.getElem_cons_zero, List.setIfInBounds_toArray, List.set_cons_zero, List.set_cons_succ])
          generalize ((((w25.setCell ⟨p10, 0, none⟩ (.int .u64 (satp : Nat))).setCell ⟨p10, 1, none⟩ (.int .i64 kind)).setCell ⟨p10, 2, none⟩ (.int .i64 mode)).setCell ⟨p10, 3, none⟩ (.bool sum)).setCell ⟨p10, 4, none⟩ (.bool mxr) = w26 at *
          refine wpAnyH_done (by kernel_rfl) ?_ _
          clear hS26
          go_wp2_with fail
          go_meet
          exact ⟨p9, p10, rfl, rfl, X26.out⟩
      · go_simp
        have X22 : Hid (Sg w (w21.alloc (.cells zw 40)) F rb M satp kind mode sum mxr [(w21.heap.size, 40, zw)]) := X21.out.alloc _ _
        refine hK1.out _ (w21.alloc (.cells zw 40)) ⟨cellOf X22.out.1.1.1 0 _ rfl, cellOf X22.out.1.1.1 1 _ rfl, cellOf X22.out.1.1.1 2 _ rfl, cellOf X22.out.1.1.1 3 _ rfl, cellOf X22.out.1.1.1 4 _ rfl⟩ (fun hS22 => ?_)
        clear hK1 K1 hS21
        (try simp only [Act.put, List.getElem_toArray, List.getElem_cons_succ, List.getElem_cons_zero, List.setIfInBounds_toArray, List.set_cons_zero, List.set_cons_succ])
        generalize w21.heap.size = p10 at *
        generalize w21.alloc (.cells zw 40) = w22 at *
        refine wpAnyH_ready (rs := [3, 4]) (by kernel_rfl) (by simp) ?_
        refine AllReadyH.cons rfl (fun K1 hK1 => ?_) (AllReadyH.cons rfl (fun K1 hK1 => ?_) AllReadyH.nil)
        · go_simp
          refine (cw _).mono ?_
          rintro e w23 ⟨rfl, hb⟩
          have X23 : Hid (Sg w w23 F rb M satp kind mode sum mxr [(p10, 40, zw)]) := X22.out.step hb
          clear hb
          refine hK1.out _ _ ⟨cellOf X23.out.1.1.1 0 _ rfl, cellOf X23.out.1.1.1 1 _ rfl, cellOf X23.out.1.1.1 2 _ rfl, cellOf X23.out.1.1.1 3 _ rfl, cellOf X23.out.1.1.1 4 _ rfl⟩ (fun hS23 => ?_)
          clear hK1 K1 hS22
          (try simp only [Act.put, List.getElem_toArray, List.getElem_cons_succ, List.getElem_cons_zero, List.setIfInBounds_toArray, List.set_cons_zero, List.set_cons_succ])
          refine wpAnyH_ready (rs := [4]) (by kernel_rfl) (by simp) ?_
          refine AllReadyH.cons rfl (fun K1 hK1 => ?_) AllReadyH.nil
          go_simp
          have X24 : Hid (Sg w (w23.alloc (.cells zw 40)) F rb M satp kind mode sum mxr [(w23.heap.size, 40, zw), (p10, 40, zw)]) := X23.out.alloc _ _
          refine hK1.out _ (w23.alloc (.cells zw 40)) ⟨cellOf X24.out.1.1.1 0 _ rfl, cellOf X24.out.1.1.1 1 _ rfl, cellOf X24.out.1.1.1 2 _ rfl, cellOf X24.out.1.1.1 3 _ rfl, cellOf X24.out.1.1.1 4 _ rfl⟩ (fun hS24 => ?_)
          clear hK1 K1 hS23
          (try simp only [Act.put, List.getElem_toArray, List.getElem_cons_succ, List.getElem_cons_zero, List.setIfInBounds_toArray, List.set_cons_zero, List.set_cons_succ])
          generalize w23.heap.size = p9 at *
          generalize w23.alloc (.cells zw 40) = w24 at *
          refine wpAnyH_ready (rs := [6]) (by kernel_rfl) (by simp) ?_
          refine AllReadyH.cons rfl (fun K1 hK1 => ?_) AllReadyH.nil
          have y0 := X24.out.cell 0 rfl 0 _ rfl
          have z0 := X24.out.frozen 0 rfl 0
          have y1 := X24.out.cell 0 rfl 1 _ rfl
          have z1 := X24.out.frozen 0 rfl 1
          have y2 := X24.out.cell 0 rfl 2 _ rfl
          have z2 := X24.out.frozen 0 rfl 2
          have y3 := X24.out.cell 0 rfl 3 _ rfl
          have z3 := X24.out.frozen 0 rfl 3
          have y4 := X24.out.cell 0 rfl 4 _ rfl
          have z4 := X24.out.frozen 0 rfl 4
          have hset := Bx.set5 (X24.out.get 0 rfl) (.int .u64 (satp : Nat)) (.int .i64 kind) (.int .i64 mode) (.bool sum) (.bool mxr)
          have X25 : Hid (Sg w (((((w24.setCell ⟨p9, 0, none⟩ (.int .u64 (satp : Nat))).setCell ⟨p9, 1, none⟩ (.int .i64 kind)).setCell ⟨p9, 2, none⟩ (.int .i64 mode)).setCell ⟨p9, 3, none⟩ (.bool sum)).setCell ⟨p9, 4, none⟩ (.bool mxr)) F rb M satp kind mode sum mxr [(p9, 40, wc5 satp kind mode sum mxr), (p10, 40, zw)]) := X24.out.set 0 rfl hset.1.1 hset.2
          clear hset
          go_simp
          refine hK1.out _ (((((w24.setCell ⟨p9, 0, none⟩ (.int .u64 (satp : Nat))).setCell ⟨p9, 1, none⟩ (.int .i64 kind)).setCell ⟨p9, 2, none⟩ (.int .i64 mode)).setCell ⟨p9, 3, none⟩ (.bool sum)).setCell ⟨p9, 4, none⟩ (.bool mxr)) ⟨cellOf X25.out.1.1.1 0 _ rfl, cellOf X25.out.1.1.1 1 _ rfl, cellOf X25.out.1.1.1 2 _ rfl, cellOf X25.out.1.1.1 3 _ rfl, cellOf X25.out.1.1.1 4 _ rfl⟩ (fun hS25 => ?_)
          clear hK1 K1 hS24 y0 z0 y1 z1 y2 z2 y3 z3 y4 z4
          (try simp only [Act.put, List.getElem_toArray, List.getElem_cons_succ, List.getElem_cons_zero, List.setIfInBounds_toArray, List.set_cons_zero, List.set_cons_succ])
          generalize ((((w24.setCell ⟨p9, 0, none⟩ (.int .u64 (satp : Nat))).setCell ⟨p9, 1, none⟩ (.int .i64 kind)).setCell ⟨p9, 2, none⟩ (.int .i64 mode)).setCell ⟨p9, 3, none⟩ (.bool sum)).setCell ⟨p9, 4, none⟩ (.bool mxr) = w25 at *
          refine wpAnyH_ready (rs := [7]) (by kernel_rfl) (by simp) ?_
          refine AllReadyH.cons rfl (fun K1 hK1 => ?_) AllReadyH.nil
          have y0 := X25.out.cell 1 rfl 0 _ rfl
          have z0 := X25.out.frozen 1 rfl 0
          have y1 := X25.out.cell 1 rfl 1 _ rfl
          have z1 := X25.out.frozen 1 rfl 1
          have y2 := X25.out.cell 1 rfl 2 _ rfl
          have z2 := X25.out.frozen 1 rfl 2
          have y3 := X25.out.cell 1 rfl 3 _ rfl
          have z3 := X25.out.frozen 1 rfl 3
          have y4 := X25.out.cell 1 rfl 4 _ rfl
          have z4 := X25.out.frozen 1 rfl 4
          have hset := Bx.set5 (X25.out.get 1 rfl) (.int .u64 (satp : Nat)) (.int .i64 kind) (.int .i64 mode) (.bool sum) (.bool mxr)
          have X26 : Hid (Sg w (((((w25.setCell ⟨p10, 0, none⟩ (.int .u64 (satp : Nat))).setCell ⟨p10, 1, none⟩ (.int .i64 kind)).setCell ⟨p10, 2, none⟩ (.int .i64 mode)).setCell ⟨p10, 3, none⟩ (.bool sum)).setCell ⟨p10, 4, none⟩ (.bool mxr)) F rb M satp kind mode sum mxr [(p9, 40, wc5 satp kind mode sum mxr), (p10, 40, wc5 satp kind mode sum mxr)]) := X25.out.set 1 rfl hset.1.1 hset.2
          clear hset
          go_simp
          refine hK1.out _ (((((w25.setCell ⟨p10, 0, none⟩ (.int .u64 (satp : Nat))).setCell ⟨p10, 1, none⟩ (.int .i64 kind)).setCell ⟨p10, 2, none⟩ (.int .i64 mode)).setCell ⟨p10, 3, none⟩ (.bool sum)).setCell ⟨p10, 4, none⟩ (.bool mxr)) ⟨cellOf X26.out.1.1.1 0 _ rfl, cellOf X26.out.1.1.1 1 _ rfl, cellOf X26.out.1.1.1 2 _ rfl, cellOf X26.out.1.1.1 3 _ rfl, cellOf X26.out.1.1.1 4 _ rfl⟩ (fun hS26 => ?_)
          clear hK1 K1 hS25 y0 z0 y1 z1 y2 z2 y3 z3 y4 z4
          (try simp only [Act.put, List.getElem_toArray, List.getElem_cons_succ, List.getElem_cons_zero, List.setIfInBounds_toArray, List.set_cons_zero, List.set_cons_succ])
          generalize ((((w25.setCell ⟨p10, 0, none⟩ (.int .u64 (satp : Nat))).setCell ⟨p10, 1, none⟩ (.int .i64 kind)).setCell ⟨p10, 2, none⟩ (.int .i64 mode)).setCell ⟨p10, 3, none⟩ (.bool sum)).setCell ⟨p10, 4, none⟩ (.bool mxr) = w26 at *
          refine wpAnyH_done (by kernel_rfl) ?_ _
          clear hS26
          go_wp2_with fail
          go_meet
          exact ⟨p9, p10, rfl, rfl, X26.out.swap⟩
        · go_simp
          have X23 : Hid (Sg w (w22.alloc (.cells zw 40)) F rb M satp kind mode sum mxr [(w22.heap.size, 40, zw), (p10, 40, zw)]) := X22.out.alloc _ _
          refine hK1.out _ (w22.alloc (.cells zw 40)) ⟨cellOf X23.out.1.1.1 0 _ rfl, cellOf X23.out.1.1.1 1 _ rfl, cellOf X23.out.1.1.1 2 _ rfl, cellOf X23.out.1.1.1 3 _ rfl, cellOf X23.out.1.1.1 4 _ rfl⟩ (fun hS23 => ?_)
          clear hK1 K1 hS22
          (try simp only [Act.put, List.getElem_toArray, List.getElem_cons_succ, List.getElem_cons_zero, List.setIfInBounds_toArray, List.set_cons_zero, List.set_cons_succ])
          generalize w22.heap.size = p9 at *
          generalize w22.alloc (.cells zw 40) = w23 at *
          refine wpAnyH_ready (rs := [3]) (by kernel_rfl) (by simp) ?_
          refine AllReadyH.cons rfl (fun K1 hK1 => ?_) AllReadyH.nil
          go_simp
          refine (cw _).mono ?_
          rintro e w24 ⟨rfl, hb⟩
          have X24 : Hid (Sg w w24 F rb M satp kind mode sum mxr [(p9, 40, zw), (p10, 40, zw)]) := X23.out.step hb
          clear hb
          refine hK1.out _ _ ⟨cellOf X24.out.1.1.1 0 _ rfl, cellOf X24.out.1.1.1 1 _ rfl, cellOf X24.out.1.1.1 2 _ rfl, cellOf X24.out.1.1.1 3 _ rfl, cellOf X24.out.1.1.1 4 _ rfl⟩ (fun hS24 => ?_)
          clear hK1 K1 hS23
          (try simp only [Act.put, List.getElem_toArray, List.getElem_cons_succ, List.getElem_cons_zero, List.setIfInBounds_toArray, List.set_cons_zero, List.set_cons_succ])
          refine wpAnyH_ready (rs := [6]) (by kernel_rfl) (by simp) ?_
          refine AllReadyH.cons rfl (fun K1 hK1 => ?_) AllReadyH.nil
          have y0 := X24.out.cell 0 rfl 0 _ rfl
          have z0 := X24.out.frozen 0 rfl 0
          have y1 := X24.out.cell 0 rfl 1 _ rfl
          have z1 := X24.out.frozen 0 rfl 1
          have y2 := X24.out.cell 0 rfl 2 _ rfl
          have z2 := X24.out.frozen 0 rfl 2
          have y3 := X24.out.cell 0 rfl 3 _ rfl
          have z3 := X24.out.frozen 0 rfl 3
          have y4 := X24.out.cell 0 rfl 4 _ rfl
          have z4 := X24.out.frozen 0 rfl 4
          have hset := Bx.set5 (X24.out.get 0 rfl) (.int .u64 (satp : Nat)) (.int .i64 kind) (.int .i64 mode) (.bool sum) (.bool mxr)
          have X25 : Hid (Sg w (((((w24.setCell ⟨p9, 0, none⟩ (.int .u64 (satp : Nat))).setCell ⟨p9, 1, none⟩ (.int .i64 kind)).setCell ⟨p9, 2, none⟩ (.int .i64 mode)).setCell ⟨p9, 3, none⟩ (.bool sum)).setCell ⟨p9, 4, none⟩ (.bool mxr)) F rb M satp kind mode sum mxr [(p9, 40, wc5 satp kind mode sum mxr), (p10, 40, zw)]) := X24.out.set 0 rfl hset.1.1 hset.2
          clear hset
          go_simp
          refine hK1.out _ (((((w24.setCell ⟨p9, 0, none⟩ (.int .u64 (satp : Nat))).setCell ⟨p9, 1, none⟩ (.int .i64 kind)).setCell ⟨p9, 2, none⟩ (.int .i64 mode)).setCell ⟨p9, 3, none⟩ (.bool sum)).setCell ⟨p9, 4, none⟩ (.bool mxr)) ⟨cellOf X25.out.1.1.1 0 _ rfl, cellOf X25.out.1.1.1 1 _ rfl, cellOf X25.out.1.1.1 2 _ rfl, cellOf X25.out.1.1.1 3 _ rfl, cellOf X25.out.1.1.1 4 _ rfl⟩ (fun hS25 => ?_)
          clear hK1 K1 hS24 y0 z0 y1 z1 y2 z2 y3 z3 y4 z4
          (try simp only [Act.put, List.getElem_toArray, List.getElem_cons_succ, List.getElem_cons_zero, List.setIfInBounds_toArray, List.set_cons_zero, List.set_cons_succ])
          generalize ((((w24.setCell ⟨p9, 0, none⟩ (.int .u64 (satp : Nat))).setCell ⟨p9, 1, none⟩ (.int .i64 kind)).setCell ⟨p9, 2, none⟩ (.int .i64 mode)).setCell ⟨p9, 3, none⟩ (.bool sum)).setCell ⟨p9, 4, none⟩ (.bool mxr) = w25 at *
          refine wpAnyH_ready (rs := [7]) (by kernel_rfl) (by simp) ?_
          refine AllReadyH.cons rfl (fun K1 hK1 => ?_) AllReadyH.nil
          have y0 := X25.out.cell 1 rfl 0 _ rfl
          have z0 := X25.out.frozen 1 rfl 0
          have y1 := X25.out.cell 1 rfl 1 _ rfl
          have z1 := X25.out.frozen 1 rfl 1
          have y2 := X25.out.cell 1 rfl 2 _ rfl
          have z2 := X25.out.frozen 1 rfl 2
          have y3 := X25.out.cell 1 rfl 3 _ rfl
          have z3 := X25.out.frozen 1 rfl 3
          have y4 := X25.out.cell 1 rfl 4 _ rfl
          have z4 := X25.out.frozen 1 rfl 4
          have hset := Bx.set5 (X25.out.get 1 rfl) (.int .u64 (satp : Nat)) (.int .i64 kind) (.int .i64 mode) (.bool sum) (.bool mxr)
          have X26 : Hid (Sg w (((((w25.setCell ⟨p10, 0, none⟩ (.int .u64 (satp : Nat))).setCell ⟨p10, 1, none⟩ (.int .i64 kind)).setCell ⟨p10, 2, none⟩ (.int .i64 mode)).setCell ⟨p10, 3, none⟩ (.bool sum)).setCell ⟨p10, 4, none⟩ (.bool mxr)) F rb M satp kind mode sum mxr [(p9, 40, wc5 satp kind mode sum mxr), (p10, 40, wc5 satp kind mode sum mxr)]) := X25.out.set 1 rfl hset.1.1 hset.2
          clear hset
          go_simp
          refine hK1.out _ (((((w25.setCell ⟨p10, 0, none⟩ (.int .u64 (satp : Nat))).setCell ⟨p10, 1, none⟩ (.int .i64 kind)).setCell ⟨p10, 2, none⟩ (.int .i64 mode)).setCell ⟨p10, 3, none⟩ (.bool sum)).setCell ⟨p10, 4, none⟩ (.bool mxr)) ⟨cellOf X26.out.1.1.1 0 _ rfl, cellOf X26.out.1.1.1 1 _ rfl, cellOf X26.out.1.1.1 2 _ rfl, cellOf X26.out.1.1.1 3 _ rfl, cellOf X26.out.1.1.1 4 _ rfl⟩ (fun hS26 => ?_)
          clear hK1 K1 hS25 y0 z0 y1 z1 y2 z2 y3 z3 y4 z4
          (try simp only [Act.put, List.getElem_toArray, List.getElem_cons_succ, List.getElem_cons_zero, List.setIfInBounds_toArray, List.set_cons_zero, List.set_cons_succ])
          generalize ((((w25.setCell ⟨p10, 0, none⟩ (.int .u64 (satp : Nat))).setCell ⟨p10, 1, none⟩ (.int .i64 kind)).setCell ⟨p10, 2, none⟩ (.int .i64 mode)).setCell ⟨p10, 3, none⟩ (.bool sum)).setCell ⟨p10, 4, none⟩ (.bool mxr) = w26 at *
          refine wpAnyH_done (by kernel_rfl) ?_ _
          clear hS26
          go_wp2_with fail
          go_meet
          exact ⟨p9, p10, rfl, rfl, X26.out.swap⟩
    · go_simp
      have X21 : Hid (Sg w (wd.alloc (.cells zw 40)) F rb M satp kind mode sum mxr [(wd.heap.size, 40, zw)]) := Xd.out.alloc _ _
      refine hK1.out _ (wd.alloc (.cells zw 40)) ⟨cellOf X21.out.1.1.1 0 _ rfl, cellOf X21.out.1.1.1 1 _ rfl, cellOf X21.out.1.1.1 2 _ rfl, cellOf X21.out.1.1.1 3 _ rfl, cellOf X21.out.1.1.1 4 _ rfl⟩ (fun hS21 => ?_)
      clear hK1 K1 hS
      (try simp only [Act.put, List.getElem_toArray, List.getElem_cons_succ, List.getElem_cons_zero, List.setIfInBounds_toArray, List.set_cons_zero, List.set_cons_succ])
      generalize wd.heap.size = p9 at *
      generalize wd.alloc (.cells zw 40) = w21 at *
      refine wpAnyH_ready (rs := [1, 5]) (by kernel_rfl) (by simp) ?_
      refine AllReadyH.cons rfl (fun K1 hK1 => ?_) (AllReadyH.cons rfl (fun K1 hK1 => ?_) AllReadyH.nil)
      · go_simp
        refine (cw _).mono ?_
        rintro e w22 ⟨rfl, hb⟩
        have X22 : Hid (Sg w w22 F rb M satp kind mode sum mxr [(p9, 40, zw)]) := X21.out.step hb
        clear hb
        refine hK1.out _ _ ⟨cellOf X22.out.1.1.1 0 _ rfl, cellOf X22.out.1.1.1 1 _ rfl, cellOf X22.out.1.1.1 2 _ rfl, cellOf X22.out.1.1.1 3 _ rfl, cellOf X22.out.1.1.1 4 _ rfl⟩ (fun hS22 => ?_)
        clear hK1 K1 hS21
        (try simp only [Act.put, List.getElem_toArray, List.getElem_cons_succ, List.getElem_cons_zero, List.setIfInBounds_toArray, List.set_cons_zero, List.set_cons_succ])
        refine wpAnyH_ready (rs := [3, 5]) (by kernel_rfl) (by simp) ?_
        refine AllReadyH.cons rfl (fun K1 hK1 => ?_) (AllReadyH.cons rfl (fun K1 hK1 => ?_) AllReadyH.nil)
        · go_simp
          refine (cw _).mono ?_
          rintro e w23 ⟨rfl, hb⟩
          have X23 : Hid (Sg w w23 F rb M satp kind mode sum mxr [(p9, 40, zw)]) := X22.out.step hb
          clear hb
          refine hK1.out _ _ ⟨cellOf X23.out.1.1.1 0 _ rfl, cellOf X23.out.1.1.1 1 _ rfl, cellOf X23.out.1.1.1 2 _ rfl, cellOf X23.out.1.1.1 3 _ rfl, cellOf X23.out.1.1.1 4 _ rfl⟩ (fun hS23 => ?_)
          clear hK1 K1 hS22
          (try simp only [Act.put, List.getElem_toArray, List.getElem_cons_succ, List.getElem_cons_zero, List.setIfInBounds_toArray, List.set_cons_zero, List.set_cons_succ])
          refine wpAnyH_ready (rs := [5]) (by kernel_rfl) (by simp) ?_
          refine AllReadyH.cons rfl (fun K1 hK1 => ?_) AllReadyH.nil
          go_simp
          have X24 : Hid (Sg w (w23.alloc (.cells zw 40)) F rb M satp kind mode sum mxr [(w23.heap.size, 40, zw), (p9, 40, zw)]) := X23.out.alloc _ _
          refine hK1.out _ (w23.alloc (.cells zw 40)) ⟨cellOf X24.out.1.1.1 0 _ rfl, cellOf X24.out.1.1.1 1 _ rfl, cellOf X24.out.1.1.1 2 _ rfl, cellOf X24.out.1.1.1 3 _ rfl, cellOf X24.out.1.1.1 4 _ rfl⟩ (fun hS24 => ?_)
          clear hK1 K1 hS23
          (try simp only [Act.put, List.getElem_toArray, List.getElem_cons_succ, List.getElem_cons_zero, List.setIfInBounds_toArray, List.set_cons_zero, List.set_cons_succ])
          generalize w23.heap.size = p10 at *
          generalize w23.alloc (.cells zw 40) = w24 at *
          refine wpAnyH_ready (rs := [6]) (by kernel_rfl) (by simp) ?_
          refine AllReadyH.cons rfl (fun K1 hK1 => ?_) AllReadyH.nil
          have y0 := X24.out.cell 1 rfl 0 _ rfl
          have z0 := X24.out.frozen 1 rfl 0
          have y1 := X24.out.cell 1 rfl 1 _ rfl
          have z1 := X24.out.frozen 1 rfl 1
          have y2 := X24.out.cell 1 rfl 2 _ rfl
          have z2 := X24.out.frozen 1 rfl 2
          have y3 := X24.out.cell 1 rfl 3 _ rfl
          have z3 := X24.out.frozen 1 rfl 3
          have y4 := X24.out.cell 1 rfl 4 _ rfl
          have z4 := X24.out.frozen 1 rfl 4
          have hset := Bx.set5 (X24.out.get 1 rfl) (.int .u64 (satp : Nat)) (.int .i64 kind) (.int .i64 mode) (.bool sum) (.bool mxr)
          have X25 : Hid (Sg w (((((w24.setCell ⟨p9, 0, none⟩ (.int .u64 (satp : Nat))).setCell ⟨p9, 1, none⟩ (.int .i64 kind)).setCell ⟨p9, 2, none⟩ (.int .i64 mode)).setCell ⟨p9, 3, none⟩ (.bool sum)).setCell ⟨p9, 4, none⟩ (.bool mxr)) F rb M satp kind mode sum mxr [(p10, 40, zw), (p9, 40, wc5 satp kind mode sum mxr)]) := X24.out.set 1 rfl hset.1.1 hset.2
          clear hset
          go_simp
          refine hK1.out _ (((((w24.setCell ⟨p9, 0, none⟩ (.int .u64 (satp : Nat))).setCell ⟨p9, 1, none⟩ (.int .i64 kind)).setCell ⟨p9, 2, none⟩ (.int .i64 mode)).setCell ⟨p9, 3, none⟩ (.bool sum)).setCell ⟨p9, 4, none⟩ (.bool mxr)) ⟨cellOf X25.out.1.1.1 0 _ rfl, cellOf X25.out.1.1.1 1 _ rfl, cellOf X25.out.1.1.1 2 _ rfl, cellOf X25.out.1.1.1 3 _ rfl, cellOf X25.out.1.1.1 4 _ rfl⟩ (fun hS25 => ?_)
          clear hK1 K1 hS24 y0 z0 y1 z1 y2 z2 y3 z3 y4 z4
          (try simp only [Act.put, List.getElem_toArray, List.getElem_cons_succ, List.getElem_cons_zero, List.setIfInBounds_toArray, List.set_cons_zero, List.set_cons_succ])
          generalize ((((w24.setCell ⟨p9, 0, none⟩ (.int .u64 (satp : Nat))).setCell ⟨p9, 1, none⟩ (.int .i64 kind)).setCell ⟨p9, 2, none⟩ (.int .i64 mode)).setCell ⟨p9, 3, none⟩ (.bool sum)).setCell ⟨p9, 4, none⟩ (.bool mxr) = w25 at *
          refine wpAnyH_ready (rs := [7]) (by kernel_rfl) (by simp) ?_
          refine AllReadyH.cons rfl (fun K1 hK1 => ?_) AllReadyH.nil
          have y0 := X25.out.cell 0 rfl 0 _ rfl
          have z0 := X25.out.frozen 0 rfl 0
          have y1 := X25.out.cell 0 rfl 1 _ rfl
          have z1 := X25.out.frozen 0 rfl 1
          have y2 := X25.out.cell 0 rfl 2 _ rfl
          have z2 := X25.out.frozen 0 rfl 2
          have y3 := X25.out.cell 0 rfl 3 _ rfl
          have z3 := X25.out.frozen 0 rfl 3
          have y4 := X25.out.cell 0 rfl 4 _ rfl
          have z4 := X25.out.frozen 0 rfl 4
          have hset := Bx.set5 (X25.out.get 0 rfl) (.int .u64 (satp : Nat)) (.int .i64 kind) (.int .i64 mode) (.bool sum) (.bool mxr)
          have X26 : Hid (Sg w (((((w25.setCell ⟨p10, 0, none⟩ (.int .u64 (satp : Nat))).setCell ⟨p10, 1, none⟩ (.int .i64 kind)).setCell ⟨p10, 2, none⟩ (.int .i64 mode)).setCell ⟨p10, 3, none⟩ (.bool sum)).setCell ⟨p10, 4, none⟩ (.bool mxr)) F rb M satp kind mode sum mxr [(p10, 40, wc5 satp kind mode sum mxr), (p9, 40, wc5 satp kind mode sum mxr)]) := X25.out.set 0 rfl hset.1.1 hset.2
          clear hset
          go_simp
          refine hK1.out _ (((((w25.setCell ⟨p10, 0, none⟩ (.int .u64 (satp : Nat))).setCell ⟨p10, 1, none⟩ (.int .i64 kind)).setCell ⟨p10, 2, none⟩ (.int .i64 mode)).setCell ⟨p10, 3, none⟩ (.bool sum)).setCell ⟨p10, 4, none⟩ (.bool mxr)) ⟨cellOf X26.out.1.1.1 0 _ rfl, cellOf X26.out.1.1.1 1 _ rfl, cellOf X26.out.1.1.1 2 _ rfl, cellOf X26.out.1.1.1 3 _ rfl, cellOf X26.out.1.1.1 4 _ rfl⟩ (fun hS26 => ?_)
          clear hK1 K1 hS25 y0 z0 y1 z1 y2 z2 y3 z3 y4 z4
          (try simp only [Act.put, List.getElem_toArray, List.getElem_cons_succ, List.getElem_cons_zero, List.setIfInBounds_toArray, List.set_cons_zero, List.set_cons_succ])
          generalize ((((w25.setCell ⟨p10, 0, none⟩ (.int .u64 (satp : Nat))).setCell ⟨p10, 1, none⟩ (.int .i64 kind)).setCell ⟨p10, 2, none⟩ (.int .i64 mode)).setCell ⟨p10, 3, none⟩ (.bool sum)).setCell ⟨p10, 4, none⟩ (.bool mxr) = w26 at *
          refine wpAnyH_done (by kernel_rfl) ?_ _
          clear hS26
          go_wp2_with fail
          go_meet
          exact ⟨p9, p10, rfl, rfl, X26.out⟩
        · go_simp
          have X23 : Hid (Sg w (w22.alloc (.cells zw 40)) F rb M satp kind mode sum mxr [(w22.heap.size, 40, zw), (p9, 40, zw)]) := X22.out.alloc _ _
          refine hK1.out _ (w22.alloc (.cells zw 40)) ⟨cellOf X23.out.1.1.1 0 _ rfl, cellOf X23.out.1.1.1 1 _ rfl, cellOf X23.out.1.1.1 2 _ rfl, cellOf X23.out.1.1.1 3 _ rfl, cellOf X23.out.1.1.1 4 _ rfl⟩ (fun hS23 => ?_)
          clear hK1 K1 hS22
          (try simp only [Act.put, List.getElem_toArray, List.getElem_cons_succ, List.getElem_cons_zero, List.setIfInBounds_toArray, List.set_cons_zero, List.set_cons_succ])
          generalize w22.heap.size = p10 at *
          generalize w22.alloc (.cells zw 40) = w23 at *
          refine wpAnyH_ready (rs := [3]) (by kernel_rfl) (by simp) ?_
          refine AllReadyH.cons rfl (fun K1 hK1 => ?_) AllReadyH.nil
          go_simp
          refine (cw _).mono ?_
          rintro e w24 ⟨rfl, hb⟩
          have X24 : Hid (Sg w w24 F rb M satp kind mode sum mxr [(p10, 40, zw), (p9, 40, zw)]) := X23.out.step hb
          clear hb
          refine hK1.out _ _ ⟨cellOf X24.out.1.1.1 0 _ rfl, cellOf X24.out.1.1.1 1 _ rfl, cellOf X24.out.1.1.1 2 _ rfl, cellOf X24.out.1.1.1 3 _ rfl, cellOf X24.out.1.1.1 4 _ rfl⟩ (fun hS24 => ?_)
          clear hK1 K1 hS23
          (try simp only [Act.put, List.getElem_toArray, List.getElem_cons_succ, List.getElem_cons_zero, List.setIfInBounds_toArray, List.set_cons_zero, List.set_cons_succ])
          refine wpAnyH_ready (rs := [6]) (by kernel_rfl) (by simp) ?_
          refine AllReadyH.cons rfl (fun K1 hK1 => ?_) AllReadyH.nil
          have y0 := X24.out.cell 1 rfl 0 _ rfl
          have z0 := X24.out.frozen 1 rfl 0
          have y1 := X24.out.cell 1 rfl 1 _ rfl
          have z1 := X24.out.frozen 1 rfl 1
          have y2 := X24.out.cell 1 rfl 2 _ rfl
          have z2 := X24.out.frozen 1 rfl 2
          have y3 := X24.out.cell 1 rfl 3 _ rfl
          have z3 := X24.out.frozen 1 rfl 3
          have y4 := X24.out.cell 1 rfl 4 _ rfl
          have z4 := X24.out.frozen 1 rfl 4
          have hset := Bx.set5 (X24.out.get 1 rfl) (.int .u64 (satp : Nat)) (.int .i64 kind) (.int .i64 mode) (.bool sum) (.bool mxr)
          have X25 : Hid (Sg w (((((w24.setCell ⟨p9, 0, none⟩ (.int .u64 (satp : Nat))).setCell ⟨p9, 1, none⟩ (.int .i64 kind)).setCell ⟨p9, 2, none⟩ (.int .i64 mode)).setCell ⟨p9, 3, none⟩ (.bool sum)).setCell ⟨p9, 4, none⟩ (.bool mxr)) F rb M satp kind mode sum mxr [(p10, 40, zw), (p9, 40, wc5 satp kind mode sum mxr)]) := X24.out.set 1 rfl hset.1.1 hset.2
          clear hset
          go_simp
          refine hK1.out _ (((((w24.setCell ⟨p9, 0, none⟩ (.int .u64 (satp : Nat))).setCell ⟨p9, 1, none⟩ (.int .i64 kind)).setCell ⟨p9, 2, none⟩ (.int .i64 mode)).setCell ⟨p9, 3, none⟩ (.bool sum)).setCell ⟨p9, 4, none⟩ (.bool mxr)) ⟨cellOf X25.out.1.1.1 0 _ rfl, cellOf X25.out.1.1.1 1 _ rfl, cellOf X25.out.1.1.1 2 _ rfl, cellOf X25.out.1.1.1 3 _ rfl, cellOf X25.out.1.1.1 4 _ rfl⟩ (fun hS25 => ?_)
          clear hK1 K1 hS24 y0 z0 y1 z1 y2 z2 y3 z3 y4 z4
          (try simp only [Act.put, List.getElem_toArray, List.getElem_cons_succ, List.getElem_cons_zero, List.setIfInBounds_toArray, List.set_cons_zero, List.set_cons_succ])
          generalize ((((w24.setCell ⟨p9, 0, none⟩ (.int .u64 (satp : Nat))).setCell ⟨p9, 1, none⟩ (.int .i64 kind)).setCell ⟨p9, 2, none⟩ (.int .i64 mode)).setCell ⟨p9, 3, none⟩ (.bool sum)).setCell ⟨p9, 4, none⟩ (.bool mxr) = w25 at *
          refine wpAnyH_ready (rs := [7]) (by kernel_rfl) (by simp) ?_
          refine AllReadyH.cons rfl (fun K1 hK1 => ?_) AllReadyH.nil
          have y0 := X25.out.cell 0 rfl 0 _ rfl
          have z0 := X25.out.frozen 0 rfl 0
          have y1 := X25.out.cell 0 rfl 1 _ rfl
          have z1 := X25.out.frozen 0 rfl 1
          have y2 := X25.out.cell 0 rfl 2 _ rfl
          have z2 := X25.out.frozen 0 rfl 2
          have y3 := X25.out.cell 0 rfl 3 _ rfl
          have z3 := X25.out.frozen 0 rfl 3
          have y4 := X25.out.cell 0 rfl 4 _ rfl
          have z4 := X25.out.frozen 0 rfl 4
          have hset := Bx.set5 (X25.out.get 0 rfl) (.int .u64 (satp : Nat)) (.int .i64 kind) (.int .i64 mode) (.bool sum) (.bool mxr)
          have X26 : Hid (Sg w (((((w25.setCell ⟨p10, 0, none⟩ (.int .u64 (satp : Nat))).setCell ⟨p10, 1, none⟩ (.int .i64 kind)).setCell ⟨p10, 2, none⟩ (.int .i64 mode)).setCell ⟨p10, 3, none⟩ (.bool sum)).setCell ⟨p10, 4, none⟩ (.bool mxr)) F rb M satp kind mode sum mxr [(p10, 40, wc5 satp kind mode sum mxr), (p9, 40, wc5 satp kind mode sum mxr)]) := X25.out.set 0 rfl hset.1.1 hset.2
          clear hset
          go_simp
          refine hK1.out _ (((((w25.setCell ⟨p10, 0, none⟩ (.int .u64 (satp : Nat))).setCell ⟨p10, 1, none⟩ (.int .i64 kind)).setCell ⟨p10, 2, none⟩ (.int .i64 mode)).setCell ⟨p10, 3, none⟩ (.bool sum)).setCell ⟨p10, 4, none⟩ (.bool mxr)) ⟨cellOf X26.out.1.1.1 0 _ rfl, cellOf X26.out.1.1.1 1 _ rfl, cellOf X26.out.1.1.1 2 _ rfl, cellOf X26.out.1.1.1 3 _ rfl, cellOf X26.out.1.1.1 4 _ rfl⟩ (fun hS26 => ?_)
          clear hK1 K1 hS25 y0 z0 y1 z1 y2 z2 y3 z3 y4 z4
          (try simp only [Act.put, List.getElem_toArray, List.getElem_cons_succ, List.getElem_cons_zero, List.setIfInBounds_toArray, List.set_cons_zero, List.set_cons_succ])
          generalize ((((w25.setCell ⟨p10, 0, none⟩ (.int .u64 (satp : Nat))).setCell ⟨p10, 1, none⟩ (.int .i64 kind)).setCell ⟨p10, 2, none⟩ (.int .i64 mode)).setCell ⟨p10, 3, none⟩ (.bool sum)).setCell ⟨p10, 4, none⟩ (.bool mxr) = w26 at *
          refine wpAnyH_done (by kernel_rfl) ?_ _
          clear hS26
          go_wp2_with fail
          go_meet
          exact ⟨p9, p10, rfl, rfl, X26.out⟩
      · go_simp
        have X22 : Hid (Sg w (w21.alloc (.cells zw 40)) F rb M satp kind mode sum mxr [(w21.heap.size, 40, zw), (p9, 40, zw)]) := X21.out.alloc _ _
        refine hK1.out _ (w21.alloc (.cells zw 40)) ⟨cellOf X22.out.1.1.1 0 _ rfl, cellOf X22.out.1.1.1 1 _ rfl, cellOf X22.out.1.1.1 2 _ rfl, cellOf X22.out.1.1.1 3 _ rfl, cellOf X22.out.1.1.1 4 _ rfl⟩ (fun hS22 => ?_)
        clear hK1 K1 hS21
        (try simp only [Act.put, List.getElem_toArray, List.getElem_cons_succ, List.getElem_cons_zero, List.setIfInBounds_toArray, List.set_cons_zero, List.set_cons_succ])
        generalize w21.heap.size = p10 at *
        generalize w21.alloc (.cells zw 40) = w22 at *
        refine wpAnyH_ready (rs := [1]) (by kernel_rfl) (by simp) ?_
        refine AllReadyH.cons rfl (fun K1 hK1 => ?_) AllReadyH.nil
        go_simp
        refine (cw _).mono ?_
        rintro e w23 ⟨rfl, hb⟩
        have X23 : Hid (Sg w w23 F rb M satp kind mode sum mxr [(p10, 40, zw), (p9, 40, zw)]) := X22.out.step hb
        clear hb
        refine hK1.out _ _ ⟨cellOf X23.out.1.1.1 0 _ rfl, cellOf X23.out.1.1.1 1 _ rfl, cellOf X23.out.1.1.1 2 _ rfl, cellOf X23.out.1.1.1 3 _ rfl, cellOf X23.out.1.1.1 4 _ rfl⟩ (fun hS23 => ?_)
        clear hK1 K1 hS22
        (try simp only [Act.put, List.getElem_toArray, List.getElem_cons_succ, List.getElem_cons_zero, List.setIfInBounds_toArray, List.set_cons_zero, List.set_cons_succ])
        refine wpAnyH_ready (rs := [3]) (by kernel_rfl) (by simp) ?_
        refine AllReadyH.cons rfl (fun K1 hK1 => ?_) AllReadyH.nil
        go_simp
        refine (cw _).mono ?_
        rintro e w24 ⟨rfl, hb⟩
        have X24 : Hid (Sg w w24 F rb M satp kind mode sum mxr [(p10, 40, zw), (p9, 40, zw)]) := X23.out.step hb
        clear hb
        refine hK1.out _ _ ⟨cellOf X24.out.1.1.1 0 _ rfl, cellOf X24.out.1.1.1 1 _ rfl, cellOf X24.out.1.1.1 2 _ rfl, cellOf X24.out.1.1.1 3 _ rfl, cellOf X24.out.1.1.1 4 _ rfl⟩ (fun hS24 => ?_)
        clear hK1 K1 hS23
        (try simp only [Act.put, List.getElem_toArray, List.getElem_cons_succ, List.getElem_cons_zero, List.setIfInBounds_toArray, List.set_cons_zero, List.set_cons_succ])
        refine wpAnyH_ready (rs := [6]) (by kernel_rfl) (by simp) ?_
        refine AllReadyH.cons rfl (fun K1 hK1 => ?_) AllReadyH.nil
        have y0 := X24.out.cell 1 rfl 0 _ rfl
        have z0 := X24.out.frozen 1 rfl 0
        have y1 := X24.out.cell 1 rfl 1 _ rfl
        have z1 := X24.out.frozen 1 rfl 1
        have y2 := X24.out.cell 1 rfl 2 _ rfl
        have z2 := X24.out.frozen 1 rfl 2
        have y3 := X24.out.cell 1 rfl 3 _ rfl
        have z3 := X24.out.frozen 1 rfl 3
        have y4 := X24.out.cell 1 rfl 4 _ rfl
        have z4 := X24.out.frozen 1 rfl 4
        have hset := Bx.set5 (X24.out.get 1 rfl) (.int .u64 (satp : Nat)) (.int .i64 kind) (.int .i64 mode) (.bool sum) (.bool mxr)
        have X25 : Hid (Sg w (((((w24.setCell ⟨p9, 0, none⟩ (.int .u64 (satp : Nat))).setCell ⟨p9, 1, none⟩ (.int .i64 kind)).setCell ⟨p9, 2, none⟩ (.int .i64 mode)).setCell ⟨p9, 3, none⟩ (.bool sum)).setCell ⟨p9, 4, none⟩ (.bool mxr)) F rb M satp kind mode sum mxr [(p10, 40, zw), (p9, 40, wc5 satp kind mode sum mxr)]) := X24.out.set 1 rfl hset.1.1 hset.2
        clear hset
        go_simp
        refine hK1.out _ (((((w24.setCell ⟨p9, 0, none⟩ (.int .u64 (satp : Nat))).setCell ⟨p9, 1, none⟩ (.int .i64 kind)).setCell ⟨p9, 2, none⟩ (.int .i64 mode)).setCell ⟨p9, 3, none⟩ (.bool sum)).setCell ⟨p9, 4, none⟩ (.bool mxr)) ⟨cellOf X25.out.1.1.1 0 _ rfl, cellOf X25.out.1.1.1 1 _ rfl, cellOf X25.out.1.1.1 2 _ rfl, cellOf X25.out.1.1.1 3 _ rfl, cellOf X25.out.1.1.1 4 _ rfl⟩ (fun hS25 => ?_)
        clear hK1 K1 hS24 y0 z0 y1 z1 y2 z2 y3 z3 y4 z4
        (try simp only [Act.put, List.getElem_toArray, List.getElem_cons_succ, List.getElem_cons_zero, List.setIfInBounds_toArray, List.set_cons_zero, List.set_cons_succ])
        generalize ((((w24.setCell ⟨p9, 0, none⟩ (.int .u64 (satp : Nat))).setCell ⟨p9, 1, none⟩ (.int .i64 kind)).setCell ⟨p9, 2, none⟩ (.int .i64 mode)).setCell ⟨p9, 3, none⟩ (.bool sum)).setCell ⟨p9, 4, none⟩ (.bool mxr) = w25 at *
        refine wpAnyH_ready (rs := [7]) (by kernel_rfl) (by simp) ?_
        refine AllReadyH.cons rfl (fun K1 hK1 => ?_) AllReadyH.nil
        have y0 := X25.out.cell 0 rfl 0 _ rfl
        have z0 := X25.out.frozen 0 rfl 0
        have y1 := X25.out.cell 0 rfl 1 _ rfl
        have z1 := X25.out.frozen 0 rfl 1
        have y2 := X25.out.cell 0 rfl 2 _ rfl
        have z2 := X25.out.frozen 0 rfl 2
        have y3 := X25.out.cell 0 rfl 3 _ rfl
        have z3 := X25.out.frozen 0 rfl 3
        have y4 := X25.out.cell 0 rfl 4 _ rfl
        have z4 := X25.out.frozen 0 rfl 4
        have hset := Bx.set5 (X25.out.get 0 rfl) (.int .u64 (satp : Nat)) (.int .i64 kind) (.int .i64 mode) (.bool sum) (.bool mxr)
        have X26 : Hid (Sg w (((((w25.setCell ⟨p10, 0, none⟩ (.int .u64 (satp : Nat))).setCell ⟨p10, 1, none⟩ (.int .i64 kind)).setCell ⟨p10, 2, none⟩ (.int .i64 mode)).setCell ⟨p10, 3, none⟩ (.bool sum)).setCell ⟨p10, 4, none⟩ (.bool mxr)) F rb M satp kind mode sum mxr [(p10, 40, wc5 satp kind mode sum mxr), (p9, 40, wc5 satp kind mode sum mxr)]) := X25.out.set 0 rfl hset.1.1 hset.2
        clear hset
        go_simp
        refine hK1.out _ (((((w25.setCell ⟨p10, 0, none⟩ (.int .u64 (satp : Nat))).setCell ⟨p10, 1, none⟩ (.int .i64 kind)).setCell ⟨p10, 2, none⟩ (.int .i64 mode)).setCell ⟨p10, 3, none⟩ (.bool sum)).setCell ⟨p10, 4, none⟩ (.bool mxr)) ⟨cellOf X26.out.1.1.1 0 _ rfl, cellOf X26.out.1.1.1 1 _ rfl, cellOf X26.out.1.1.1 2 _ rfl, cellOf X26.out.1.1.1 3 _ rfl, cellOf X26.out.1.1.1 4 _ rfl⟩ (fun hS26 => ?_)
        clear hK1 K1 hS25 y0 z0 y1 z1 y2 z2 y3 z3 y4 z4
        (try simp only [Act.put, List.getElem_toArray, List.getElem_cons_succ, List.getElem_cons_zero, List.setIfInBounds_toArray, List.set_cons_zero, List.set_cons_succ])
        generalize ((((w25.setCell ⟨p10, 0, none⟩ (.int .u64 (satp : Nat))).setCell ⟨p10, 1, none⟩ (.int .i64 kind)).setCell ⟨p10, 2, none⟩ (.int .i64 mode)).setCell ⟨p10, 3, none⟩ (.bool sum)).setCell ⟨p10, 4, none⟩ (.bool mxr) = w26 at *
        refine wpAnyH_done (by kernel_rfl) ?_ _
        clear hS26
        go_wp2_with fail
        go_meet
        exact ⟨p9, p10, rfl, rfl, X26.out⟩
    · go_simp
      have X21 : Hid (Sg w (wd.alloc (.cells zw 40)) F rb M satp kind mode sum mxr [(wd.heap.size, 40, zw)]) := Xd.out.alloc _ _
      refine hK1.out _ (wd.alloc (.cells zw 40)) ⟨cellOf X21.out.1.1.1 0 _ rfl, cellOf X21.out.1.1.1 1 _ rfl, cellOf X21.out.1.1.1 2 _ rfl, cellOf X21.out.1.1.1 3 _ rfl, cellOf X21.out.1.1.1 4 _ rfl⟩ (fun hS21 => ?_)
      clear hK1 K1 hS
      (try simp only [Act.put, List.getElem_toArray, List.getElem_cons_succ, List.getElem_cons_zero, List.setIfInBounds_toArray, List.set_cons_zero, List.set_cons_succ])
      generalize wd.heap.size = p10 at *
      generalize wd.alloc (.cells zw 40) = w21 at *
      refine wpAnyH_ready (rs := [1, 4]) (by kernel_rfl) (by simp) ?_
      refine AllReadyH.cons rfl (fun K1 hK1 => ?_) (AllReadyH.cons rfl (fun K1 hK1 => ?_) AllReadyH.nil)
      · go_simp
        refine (cw _).mono ?_
        rintro e w22 ⟨rfl, hb⟩
        have X22 : Hid (Sg w w22 F rb M satp kind mode sum mxr [(p10, 40, zw)]) := X21.out.step hb
        clear hb
        refine hK1.out _ _ ⟨cellOf X22.out.1.1.1 0 _ rfl, cellOf X22.out.1.1.1 1 _ rfl, cellOf X22.out.1.1.1 2 _ rfl, cellOf X22.out.1.1.1 3 _ rfl, cellOf X22.out.1.1.1 4 _ rfl⟩ (fun hS22 => ?_)
        clear hK1 K1 hS21
        (try simp only [Act.put, List.getElem_toArray, List.getElem_cons_succ, List.getElem_cons_zero, List.setIfInBounds_toArray, List.set_cons_zero, List.set_cons_succ])
        refine wpAnyH_ready (rs := [3, 4]) (by kernel_rfl) (by simp) ?_
        refine AllReadyH.cons rfl (fun K1 hK1 => ?_) (AllReadyH.cons rfl (fun K1 hK1 => ?_) AllReadyH.nil)
        · go_simp
          refine (cw _).mono ?_
          rintro e w23 ⟨rfl, hb⟩
          have X23 : Hid (Sg w w23 F rb M satp kind mode sum mxr [(p10, 40, zw)]) := X22.out.step hb
          clear hb
          refine hK1.out _ _ ⟨cellOf X23.out.1.1.1 0 _ rfl, cellOf X23.out.1.1.1 1 _ rfl, cellOf X23.out.1.1.1 2 _ rfl, cellOf X23.out.1.1.1 3 _ rfl, cellOf X23.out.1.1.1 4 _ rfl⟩ (fun hS23 => ?_)
          clear hK1 K1 hS22
          (try simp only [Act.put, List.getElem_toArray, List.getElem_cons_succ, List.getElem_cons_zero, List.setIfInBounds_toArray, List.set_cons_zero, List.set_cons_succ])
          refine wpAnyH_ready (rs := [4]) (by kernel_rfl) (by simp) ?_
          refine AllReadyH.cons rfl (fun K1 hK1 => ?_) AllReadyH.nil
          go_simp
          have X24 : Hid (Sg w (w23.alloc (.cells zw 40)) F rb M satp kind mode sum mxr [(w23.heap.size, 40, zw), (p10, 40, zw)]) := X23.out.alloc _ _
          refine hK1.out _ (w23.alloc (.cells zw 40)) ⟨cellOf X24.out.1.1.1 0 _ rfl, cellOf X24.out.1.1.1 1 _ rfl, cellOf X24.out.1.1.1 2 _ rfl, cellOf X24.out.1.1.1 3 _ rfl, cellOf X24.out.1.1.1 4 _ rfl⟩ (fun hS24 => ?_)
          clear hK1 K1 hS23
          (try simp only [Act.put, List.getElem_toArray, List.getElem_cons_succ, List.getElem_cons_zero, List.setIfInBounds_toArray, List.set_cons_zero, List.set_cons_succ])
          generalize w23.heap.size = p9 at *
          generalize w23.alloc (.cells zw 40) = w24 at *
          refine wpAnyH_ready (rs := [6]) (by kernel_rfl) (by simp) ?_
          refine AllReadyH.cons rfl (fun K1 hK1 => ?_) AllReadyH.nil
          have y0 := X24.out.cell 0 rfl 0 _ rfl
          have z0 := X24.out.frozen 0 rfl 0
          have y1 := X24.out.cell 0 rfl 1 _ rfl
          have z1 := X24.out.frozen 0 rfl 1
          have y2 := X24.out.cell 0 rfl 2 _ rfl
          have z2 := X24.out.frozen 0 rfl 2
          have y3 := X24.out.cell 0 rfl 3 _ rfl
          have z3 := X24.out.frozen 0 rfl 3
          have y4 := X24.out.cell 0 rfl 4 _ rfl
          have z4 := X24.out.frozen 0 rfl 4
          have hset := Bx.set5 (X24.out.get 0 rfl) (.int .u64 (satp : Nat)) (.int .i64 kind) (.int .i64 mode) (.bool sum) (.bool mxr)
          have X25 : Hid (Sg w (((((w24.setCell ⟨p9, 0, none⟩ (.int .u64 (satp : Nat))).setCell ⟨p9, 1, none⟩ (.int .i64 kind)).setCell ⟨p9, 2, none⟩ (.int .i64 mode)).setCell ⟨p9, 3, none⟩ (.bool sum)).setCell ⟨p9, 4, none⟩ (.bool mxr)) F rb M satp kind mode sum mxr [(p9, 40, wc5 satp kind mode sum mxr), (p10, 40, zw)]) := X24.out.set 0 rfl hset.1.1 hset.2
          clear hset
          go_simp
          refine hK1.out _ (((((w24.setCell ⟨p9, 0, none⟩ (.int .u64 (satp : Nat))).setCell ⟨p9, 1, none⟩ (.int .i64 kind)).setCell ⟨p9, 2, none⟩ (.int .i64 mode)).setCell ⟨p9, 3, none⟩ (.bool sum)).setCell ⟨p9, 4, none⟩ (.bool mxr)) ⟨cellOf X25.out.1.1.1 0 _ rfl, cellOf X25.out.1.1.1 1 _ rfl, cellOf X25.out.1.1.1 2 _ rfl, cellOf X25.out.1.1.1 3 _ rfl, cellOf X25.out.1.1.1 4 _ rfl⟩ (fun hS25 => ?_)
          clear hK1 K1 hS24 y0 z0 y1 z1 y2 z2 y3 z3 y4 z4
          (try simp only [Act.put, List.getElem_toArray, List.getElem_cons_succ, List.getElem_cons_zero, List.setIfInBounds_toArray, List.set_cons_zero, List.set_cons_succ])
          generalize ((((w24.setCell ⟨p9, 0, none⟩ (.int .u64 (satp : Nat))).setCell ⟨p9, 1, none⟩ (.int .i64 kind)).setCell ⟨p9, 2, none⟩ (.int .i64 mode)).setCell ⟨p9, 3, none⟩ (.bool sum)).setCell ⟨p9, 4, none⟩ (.bool mxr) = w25 at *
          refine wpAnyH_ready (rs := [7]) (by kernel_rfl) (by simp) ?_
          refine AllReadyH.cons rfl (fun K1 hK1 => ?_) AllReadyH.nil
          have y0 := X25.out.cell 1 rfl 0 _ rfl
          have z0 := X25.out.frozen 1 rfl 0
          have y1 := X25.out.cell 1 rfl 1 _ rfl
          have z1 := X25.out.frozen 1 rfl 1
          have y2 := X25.out.cell 1 rfl 2 _ rfl
          have z2 := X25.out.frozen 1 rfl 2
          have y3 := X25.out.cell 1 rfl 3 _ rfl
          have z3 := X25.out.frozen 1 rfl 3
          have y4 := X25.out.cell 1 rfl 4 _ rfl
          have z4 := X25.out.frozen 1 rfl 4
          have hset := Bx.set5 (X25.out.get 1 rfl) (.int .u64 (satp : Nat)) (.int .i64 kind) (.int .i64 mode) (.bool sum) (.bool mxr)
          have X26 : Hid (Sg w (((((w25.setCell ⟨p10, 0, none⟩ (.int .u64 (satp : Nat))).setCell ⟨p10, 1, none⟩ (.int .i64 kind)).setCell ⟨p10, 2, none⟩ (.int .i64 mode)).setCell ⟨p10, 3, none⟩ (.bool sum)).setCell ⟨p10, 4, none⟩ (.bool mxr)) F rb M satp kind mode sum mxr [(p9, 40, wc5 satp kind mode sum mxr), (p10, 40, wc5 satp kind mode sum mxr)]) := X25.out.set 1 rfl hset.1.1 hset.2
          clear hset
          go_simp
          refine hK1.out _ (((((w25.setCell ⟨p10, 0, none⟩ (.int .u64 (satp : Nat))).setCell ⟨p10, 1, none⟩ (.int .i64 kind)).setCell ⟨p10, 2, none⟩ (.int .i64 mode)).setCell ⟨p10, 3, none⟩ (.bool sum)).setCell ⟨p10, 4, none⟩ (.bool mxr)) ⟨cellOf X26.out.1.1.1 0 _ rfl, cellOf X26.out.1.1.1 1 _ rfl, cellOf X26.out.1.1.1 2 _ rfl, cellOf X26.out.1.1.1 3 _ rfl, cellOf X26.out.1.1.1 4 _ rfl⟩ (fun hS26 => ?_)
          clear hK1 K1 hS25 y0 z0 y1 z1 y2 z2 y3 z3 y4 z4
          (try simp only [Act.put, List.getElem_toArray, List.getElem_cons_succ, List.getElem_cons_zero, List.setIfInBounds_toArray, List.set_cons_zero, List.set_cons_succ])
          generalize ((((w25.setCell ⟨p10, 0, none⟩ (.int .u64 (satp : Nat))).setCell ⟨p10, 1, none⟩ (.int .i64 kind)).setCell ⟨p10, 2, none⟩ (.int .i64 mode)).setCell ⟨p10, 3, none⟩ (.bool sum)).setCell ⟨p10, 4, none⟩ (.bool mxr) = w26 at *
          refine wpAnyH_done (by kernel_rfl) ?_ _
          clear hS26
          go_wp2_with fail
          go_meet
          exact ⟨p9, p10, rfl, rfl, X26.out.swap⟩
        · go_simp
          have X23 : Hid (Sg w (w22.alloc (.cells zw 40)) F rb M satp kind mode sum mxr [(w22.heap.size, 40, zw), (p10, 40, zw)]) := X22.out.alloc _ _
          refine hK1.out _ (w22.alloc (.cells zw 40)) ⟨cellOf X23.out.1.1.1 0 _ rfl, cellOf X23.out.1.1.1 1 _ rfl, cellOf X23.out.1.1.1 2 _ rfl, cellOf X23.out.1.1.1 3 _ rfl, cellOf X23.out.1.1.1 4 _ rfl⟩ (fun hS23 => ?_)
          clear hK1 K1 hS22
          (try simp only [Act.put, List.getElem_toArray, List.getElem_cons_succ, List.getElem_cons_zero, List.setIfInBounds_toArray, List.set_cons_zero, List.set_cons_succ])
          generalize w22.heap.size = p9 at *
          generalize w22.alloc (.cells zw 40) = w23 at *
          refine wpAnyH_ready (rs := [3]) (by kernel_rfl) (by simp) ?_
          refine AllReadyH.cons rfl (fun K1 hK1 => ?_) AllReadyH.nil
          go_simp
          refine (cw _).mono ?_
          rintro e w24 ⟨rfl, hb⟩
          have X24 : Hid (Sg w w24 F rb M satp kind mode sum mxr [(p9, 40, zw), (p10, 40, zw)]) := X23.out.step hb
          clear hb
          refine hK1.out _ _ ⟨cellOf X24.out.1.1.1 0 _ rfl, cellOf X24.out.1.1.1 1 _ rfl, cellOf X24.out.1.1.1 2 _ rfl, cellOf X24.out.1.1.1 3 _ rfl, cellOf X24.out.1.1.1 4 _ rfl⟩ (fun hS24 => ?_)
          clear hK1 K1 hS23
          (try simp only [Act.put, List.getElem_toArray, List.getElem_cons_succ, List.getElem_cons_zero, List.setIfInBounds_toArray, List.set_cons_zero, List.set_cons_succ])
          refine wpAnyH_ready (rs := [6]) (by kernel_rfl) (by simp) ?_
          refine AllReadyH.cons rfl (fun K1 hK1 => ?_) AllReadyH.nil
          have y0 := X24.out.cell 0 rfl 0 _ rfl
          have z0 := X24.out.frozen 0 rfl 0
          have y1 := X24.out.cell 0 rfl 1 _ rfl
          have z1 := X24.out.frozen 0 rfl 1
          have y2 := X24.out.cell 0 rfl 2 _ rfl
          have z2 := X24.out.frozen 0 rfl 2
          have y3 := X24.out.cell 0 rfl 3 _ rfl
          have z3 := X24.out.frozen 0 rfl 3
          have y4 := X24.out.cell 0 rfl 4 _ rfl
          have z4 := X24.out.frozen 0 rfl 4
          have hset := Bx.set5 (X24.out.get 0 rfl) (.int .u64 (satp : Nat)) (.int .i64 kind) (.int .i64 mode) (.bool sum) (.bool mxr)
          have X25 : Hid (Sg w (((((w24.setCell ⟨p9, 0, none⟩ (.int .u64 (satp : Nat))).setCell ⟨p9, 1, none⟩ (.int .i64 kind)).setCell ⟨p9, 2, none⟩ (.int .i64 mode)).setCell ⟨p9, 3, none⟩ (.bool sum)).setCell ⟨p9, 4, none⟩ (.bool mxr)) F rb M satp kind mode sum mxr [(p9, 40, wc5 satp kind mode sum mxr), (p10, 40, zw)]) := X24.out.set 0 rfl hset.1.1 hset.2
          clear hset
          go_simp
          refine hK1.out _ (((((w24.setCell ⟨p9, 0, none⟩ (.int .u64 (satp : Nat))).setCell ⟨p9, 1, none⟩ (.int .i64 kind)).setCell ⟨p9, 2, none⟩ (.int .i64 mode)).setCell ⟨p9, 3, none⟩ (.bool sum)).setCell ⟨p9, 4, none⟩ (.bool mxr)) ⟨cellOf X25.out.1.1.1 0 _ rfl, cellOf X25.out.1.1.1 1 _ rfl, cellOf X25.out.1.1.1 2 _ rfl, cellOf X25.out.1.1.1 3 _ rfl, cellOf X25.out.1.1.1 4 _ rfl⟩ (fun hS25 => ?_)
          clear hK1 K1 hS24 y0 z0 y1 z1 y2 z2 y3 z3 y4 z4
          (try simp only [Act.put, List.getElem_toArray, List.getElem_cons_succ, List.getElem_cons_zero, List.setIfInBounds_toArray, List.set_cons_zero, List.set_cons_succ])
          generalize ((((w24.setCell ⟨p9, 0, none⟩ (.int .u64 (satp : Nat))).setCell ⟨p9, 1, none⟩ (.int .i64 kind)).setCell ⟨p9, 2, none⟩ (.int .i64 mode)).setCell ⟨p9, 3, none⟩ (.bool sum)).setCell ⟨p9, 4, none⟩ (.bool mxr) = w25 at *
          refine wpAnyH_ready (rs := [7]) (by kernel_rfl) (by simp) ?_
          refine AllReadyH.cons rfl (fun K1 hK1 => ?_) AllReadyH.nil
          have y0 := X25.out.cell 1 rfl 0 _ rfl
          have z0 := X25.out.frozen 1 rfl 0
          have y1 := X25.out.cell 1 rfl 1 _ rfl
          have z1 := X25.out.frozen 1 rfl 1
          have y2 := X25.out.cell 1 rfl 2 _ rfl
          have z2 := X25.out.frozen 1 rfl 2
          have y3 := X25.out.cell 1 rfl 3 _ rfl
          have z3 := X25.out.frozen 1 rfl 3
          have y4 := X25.out.cell 1 rfl 4 _ rfl
          have z4 := X25.out.frozen 1 rfl 4
          have hset := Bx.set5 (X25.out.get 1 rfl) (.int .u64 (satp : Nat)) (.int .i64 kind) (.int .i64 mode) (.bool sum) (.bool mxr)
          have X26 : Hid (Sg w (((((w25.setCell ⟨p10, 0, none⟩ (.int .u64 (satp : Nat))).setCell ⟨p10, 1, none⟩ (.int .i64 kind)).setCell ⟨p10, 2, none⟩ (.int .i64 mode)).setCell ⟨p10, 3, none⟩ (.bool sum)).setCell ⟨p10, 4, none⟩ (.bool mxr)) F rb M satp kind mode sum mxr [(p9, 40, wc5 satp kind mode sum mxr), (p10, 40, wc5 satp kind mode sum mxr)]) := X25.out.set 1 rfl hset.1.1 hset.2
          clear hset
          go_simp
          refine hK1.out _ (((((w25.setCell ⟨p10, 0, none⟩ (.int .u64 (satp : Nat))).setCell ⟨p10, 1, none⟩ (.int .i64 kind)).setCell ⟨p10, 2, none⟩ (.int .i64 mode)).setCell ⟨p10, 3, none⟩ (.bool sum)).setCell ⟨p10, 4, none⟩ (.bool mxr)) ⟨cellOf X26.out.1.1.1 0 _ rfl, cellOf X26.out.1.1.1 1 _ rfl, cellOf X26.out.1.1.1 2 _ rfl, cellOf X26.out.1.1.1 3 _ rfl, cellOf X26.out.1.1.1 4 _ rfl⟩ (fun hS26 => ?_)
          clear hK1 K1 hS25 y0 z0 y1 z1 y2 z2 y3 z3 y4 z4
          (try simp only [Act.put, List.getElem_toArray, List.getElem_cons_succ, List.getElem_cons_zero, List.setIfInBounds_toArray, List.set_cons_zero, List.set_cons_succ])
          generalize ((((w25.setCell ⟨p10, 0, none⟩ (.int .u64 (satp : Nat))).setCell ⟨p10, 1, none⟩ (.int .i64 kind)).setCell ⟨p10, 2, none⟩ (.int .i64 mode)).setCell ⟨p10, 3, none⟩ (.bool sum)).setCell ⟨p10, 4, none⟩ (.bool mxr) = w26 at *
          refine wpAnyH_done (by kernel_rfl) ?_ _
          clear hS26
          go_wp2_with fail
          go_meet
          exact ⟨p9, p10, rfl, rfl, X26.out.swap⟩
      · go_simp
        have X22 : Hid (Sg w (w21.alloc (.cells zw 40)) F rb M satp kind mode sum mxr [(w21.heap.size, 40, zw), (p10, 40, zw)]) := X21.out.alloc _ _
        refine hK1.out _ (w21.alloc (.cells zw 40)) ⟨cellOf X22.out.1.1.1 0 _ rfl, cellOf X22.out.1.1.1 1 _ rfl, cellOf X22.out.1.1.1 2 _ rfl, cellOf X22.out.1.1.1 3 _ rfl, cellOf X22.out.1.1.1 4 _ rfl⟩ (fun hS22 => ?_)
        clear hK1 K1 hS21
        (try simp only [Act.put, List.getElem_toArray, List.getElem_cons_succ, List.getElem_cons_zero, List.setIfInBounds_toArray, List.set_cons_zero, List.set_cons_succ])
        generalize w21.heap.size = p9 at *
        generalize w21.alloc (.cells zw 40) = w22 at *
        refine wpAnyH_ready (rs := [1]) (by kernel_rfl) (by simp) ?_
        refine AllReadyH.cons rfl (fun K1 hK1 => ?_) AllReadyH.nil
        go_simp
        refine (cw _).mono ?_
        rintro e w23 ⟨rfl, hb⟩
        have X23 : Hid (Sg w w23 F rb M satp kind mode sum mxr [(p9, 40, zw), (p10, 40, zw)]) := X22.out.step hb
        clear hb
        refine hK1.out _ _ ⟨cellOf X23.out.1.1.1 0 _ rfl, cellOf X23.out.1.1.1 1 _ rfl, cellOf X23.out.1.1.1 2 _ rfl, cellOf X23.out.1.1.1 3 _ rfl, cellOf X23.out.1.1.1 4 _ rfl⟩ (fun hS23 => ?_)
        clear hK1 K1 hS22
        (try simp only [Act.put, List.getElem_toArray, List.getElem_cons_succ, List.getElem_cons_zero, List.setIfInBounds_toArray, List.set_cons_zero, List.set_cons_succ])
        refine wpAnyH_ready (rs := [3]) (by kernel_rfl) (by simp) ?_
        refine AllReadyH.cons rfl (fun K1 hK1 => ?_) AllReadyH.nil
        go_simp
        refine (cw _).mono ?_
        rintro e w24 ⟨rfl, hb⟩
        have X24 : Hid (Sg w w24 F rb M satp kind mode sum mxr [(p9, 40, zw), (p10, 40, zw)]) := X23.out.step hb
        clear hb
        refine hK1.out _ _ ⟨cellOf X24.out.1.1.1 0 _ rfl, cellOf X24.out.1.1.1 1 _ rfl, cellOf X24.out.1.1.1 2 _ rfl, cellOf X24.out.1.1.1 3 _ rfl, cellOf X24.out.1.1.1 4 _ rfl⟩ (fun hS24 => ?_)
        clear hK1 K1 hS23
        (try simp only [Act.put, List.getElem_toArray, List.getElem_cons_succ, List.getElem_cons_zero, List.setIfInBounds_toArray, List.set_cons_zero, List.set_cons_succ])
        refine wpAnyH_ready (rs := [6]) (by kernel_rfl) (by simp) ?_
        refine AllReadyH.cons rfl (fun K1 hK1 => ?_) AllReadyH.nil
        have y0 := X24.out.cell 0 rfl 0 _ rfl
        have z0 := X24.out.frozen 0 rfl 0
        have y1 := X24.out.cell 0 rfl 1 _ rfl
        have z1 := X24.out.frozen 0 rfl 1
        have y2 := X24.out.cell 0 rfl 2 _ rfl
        have z2 := X24.out.frozen 0 rfl 2
        have y3 := X24.out.cell 0 rfl 3 _ rfl
        have z3 := X24.out.frozen 0 rfl 3
        have y4 := X24.out.cell 0 rfl 4 _ rfl
        have z4 := X24.out.frozen 0 rfl 4
        have hset := Bx.set5 (X24.out.get 0 rfl) (.int .u64 (satp : Nat)) (.int .i64 kind) (.int .i64 mode) (.bool sum) (.bool mxr)
        have X25 : Hid (Sg w (((((w24.setCell ⟨p9, 0, none⟩ (.int .u64 (satp : Nat))).setCell ⟨p9, 1, none⟩ (.int .i64 kind)).setCell ⟨p9, 2, none⟩ (.int .i64 mode)).setCell ⟨p9, 3, none⟩ (.bool sum)).setCell ⟨p9, 4, none⟩ (.bool mxr)) F rb M satp kind mode sum mxr [(p9, 40, wc5 satp kind mode sum mxr), (p10, 40, zw)]) := X24.out.set 0 rfl hset.1.1 hset.2
        clear hset
        go_simp
        refine hK1.out _ (((((w24.setCell ⟨p9, 0, none⟩ (.int .u64 (satp : Nat))).setCell ⟨p9, 1, none⟩ (.int .i64 kind)).setCell ⟨p9, 2, none⟩ (.int .i64 mode)).setCell ⟨p9, 3, none⟩ (.bool sum)).setCell ⟨p9, 4, none⟩ (.bool mxr)) ⟨cellOf X25.out.1.1.1 0 _ rfl, cellOf X25.out.1.1.1 1 _ rfl, cellOf X25.out.1.1.1 2 _ rfl, cellOf X25.out.1.1.1 3 _ rfl, cellOf X25.out.1.1.1 4 _ rfl⟩ (fun hS25 => ?_)
        clear hK1 K1 hS24 y0 z0 y1 z1 y2 z2 y3 z3 y4 z4
        (try simp only [Act.put, List.getElem_toArray, List.getElem_cons_succ, List.getElem_cons_zero, List.setIfInBounds_toArray, List.set_cons_zero, List.set_cons_succ])
        generalize ((((w24.setCell ⟨p9, 0, none⟩ (.int .u64 (satp : Nat))).setCell ⟨p9, 1, none⟩ (.int .i64 kind)).setCell ⟨p9, 2, none⟩ (.int .i64 mode)).setCell ⟨p9, 3, none⟩ (.bool sum)).setCell ⟨p9, 4, none⟩ (.bool mxr) = w25 at *
        refine wpAnyH_ready (rs := [7]) (by kernel_rfl) (by simp) ?_
        refine AllReadyH.cons rfl (fun K1 hK1 => ?_) AllReadyH.nil
        have y0 := X25.out.cell 1 rfl 0 _ rfl
        have z0 := X25.out.frozen 1 rfl 0
        have y1 := X25.out.cell 1 rfl 1 _ rfl
        have z1 := X25.out.frozen 1 rfl 1
        have y2 := X25.out.cell 1 rfl 2 _ rfl
        have z2 := X25.out.frozen 1 rfl 2
        have y3 := X25.out.cell 1 rfl 3 _ rfl
        have z3 := X25.out.frozen 1 rfl 3
        have y4 := X25.out.cell 1 rfl 4 _ rfl
        have z4 := X25.out.frozen 1 rfl 4
        have hset := Bx.set5 (X25.out.get 1 rfl) (.int .u64 (satp : Nat)) (.int .i64 kind) (.int .i64 mode) (.bool sum) (.bool mxr)
        have X26 : Hid (Sg w (((((w25.setCell ⟨p10, 0, none⟩ (.int .u64 (satp : Nat))).setCell ⟨p10, 1, none⟩ (.int .i64 kind)).setCell ⟨p10, 2, none⟩ (.int .i64 mode)).setCell ⟨p10, 3, none⟩ (.bool sum)).setCell ⟨p10, 4, none⟩ (.bool mxr)) F rb M satp kind mode sum mxr [(p9, 40, wc5 satp kind mode sum mxr), (p10, 40, wc5 satp kind mode sum mxr)]) := X25.out.set 1 rfl hset.1.1 hset.2
        clear hset
        go_simp
        refine hK1.out _ (((((w25.setCell ⟨p10, 0, none⟩ (.int .u64 (satp : Nat))).setCell ⟨p10, 1, none⟩ (.int .i64 kind)).setCell ⟨p10, 2, none⟩ (.int .i64 mode)).setCell ⟨p10, 3, none⟩ (.bool sum)).setCell ⟨p10, 4, none⟩ (.bool mxr)) ⟨cellOf X26.out.1.1.1 0 _ rfl, cellOf X26.out.1.1.1 1 _ rfl, cellOf X26.out.1.1.1 2 _ rfl, cellOf X26.out.1.1.1 3 _ rfl, cellOf X26.out.1.1.1 4 _ rfl⟩ (fun hS26 => ?_)
        clear hK1 K1 hS25 y0 z0 y1 z1 y2 z2 y3 z3 y4 z4
        (try simp only [Act.put, List.getElem_toArray, List.getElem_cons_succ, List.getElem_cons_zero, List.setIfInBounds_toArray, List.set_cons_zero, List.set_cons_succ])
        generalize ((((w25.setCell ⟨p10, 0, none⟩ (.int .u64 (satp : Nat))).setCell ⟨p10, 1, none⟩ (.int .i64 kind)).setCell ⟨p10, 2, none⟩ (.int .i64 mode)).setCell ⟨p10, 3, none⟩ (.bool sum)).setCell ⟨p10, 4, none⟩ (.bool mxr) = w26 at *
        refine wpAnyH_done (by kernel_rfl) ?_ _
        clear hS26
        go_wp2_with fail
        go_meet
        exact ⟨p9, p10, rfl, rfl, X26.out.swap⟩
  case rest =>
  obtain ⟨p9, p10, rfl, rfl, ht⟩ := hcut
  have X6 : Hid (Sg w wc F rb M satp kind mode sum mxr [(p10, 40, wc5 satp kind mode sum mxr), (p9, 40, wc5 satp kind mode sum mxr)]) := ht
  clear ht X4
  have k1 := X6.out.cell 1 rfl 1 _ rfl
  have k2 := X6.out.frozen 1 rfl 1
  have k3 := X6.out.cell 0 rfl 1 _ rfl
  have k4 := X6.out.frozen 0 rfl 1
  have k5 : p10 ≠ p9 := (X6.out.ne rfl).1
  have k6 : p9 ≠ p10 := (X6.out.ne rfl).2
  go_upto_region 8 with fail
  have Y0 : Hid (Sg w (wc.setCell ⟨p9, 1, none⟩ (.int .i64 2)) F rb M satp kind mode sum mxr [(p10, 40, wc5 satp kind mode sum mxr), (p9, 40, wc5 satp 2 mode sum mxr)]) := X6.out.set1 1 rfl 1 _
  have Y1 : Hid (Sg w ((wc.setCell ⟨p9, 1, none⟩ (.int .i64 2)).setCell ⟨p10, 1, none⟩ (.int .i64 1)) F rb M satp kind mode sum mxr [(p10, 40, wc5 satp 1 mode sum mxr), (p9, 40, wc5 satp 2 mode sum mxr)]) := Y0.out.set1 0 rfl 1 _
  have X7 : Hid (Sg w ((wc.setCell ⟨p9, 1, none⟩ (.int .i64 2)).setCell ⟨p10, 1, none⟩ (.int .i64 1)) F rb M satp kind mode sum mxr [(p10, 40, wc5 satp 1 mode sum mxr), (p9, 40, wc5 satp 2 mode sum mxr)]) := Y1.out
  clear Y0 Y1 X6
  generalize (wc.setCell ⟨p9, 1, none⟩ (.int .i64 2)).setCell ⟨p10, 1, none⟩ (.int .i64 1) = V7 at *
  clear k1 k2 k3 k4 k5 k6
  go_upto_region 8 with fail
  go_cut [11, 12] (fun x y wx => ∃ p11 p12 : Nat, x = .pointer (some ⟨p11, 0, none⟩) ∧ y = .pointer (some ⟨p12, 0, none⟩) ∧ Sg w wx F rb M satp kind mode sum mxr [(p12, 36, #[.int .u64 (b0 : Nat), .bool b1, .bool b2, .int .i64 (b3 : Nat)]), (p11, 36, #[.int .u64 (a0 : Nat), .bool a1, .bool a2, .int .i64 (a3 : Nat)]), (p10, 40, wc5 satp 1 mode sum mxr), (p9, 40, wc5 satp 2 mode sum mxr)])
  case first =>
    have Xd : Hid (Sg w V7.drew F rb M satp kind mode sum mxr [(p10, 40, wc5 satp 1 mode sum mxr), (p9, 40, wc5 satp 2 mode sum mxr)]) := X7.out.drew
    refine wp_region_held_drew (S := fun V => (V.cell? ⟨p9, 0, none⟩ = some (.int .u64 (satp : Nat)) ∧ V.cell? ⟨p9, 1, none⟩ = some (.int .i64 2) ∧ V.cell? ⟨p9, 2, none⟩ = some (.int .i64 mode) ∧ V.cell? ⟨p9, 3, none⟩ = some (.bool sum) ∧ V.cell? ⟨p9, 4, none⟩ = some (.bool mxr)) ∧ V.cell? ⟨p10, 0, none⟩ = some (.int .u64 (satp : Nat)) ∧ V.cell? ⟨p10, 1, none⟩ = some (.int .i64 1) ∧ V.cell? ⟨p10, 2, none⟩ = some (.int .i64 mode) ∧ V.cell? ⟨p10, 3, none⟩ = some (.bool sum) ∧ V.cell? ⟨p10, 4, none⟩ = some (.bool mxr)) (by kernel_rfl) ⟨⟨Xd.out.cell 1 rfl 0 _ rfl, Xd.out.cell 1 rfl 1 _ rfl, Xd.out.cell 1 rfl 2 _ rfl, Xd.out.cell 1 rfl 3 _ rfl, Xd.out.cell 1 rfl 4 _ rfl⟩, Xd.out.cell 0 rfl 0 _ rfl, Xd.out.cell 0 rfl 1 _ rfl, Xd.out.cell 0 rfl 2 _ rfl, Xd.out.cell 0 rfl 3 _ rfl, Xd.out.cell 0 rfl 4 _ rfl⟩ ?_
    intro hS
    generalize V7.drew = wd at *
    refine wpAnyH_take (i := 0) (v := ?_) rfl (by kernel_rfl) (by kernel_rfl) (by kernel_rfl) (fun _ _ _ h => h) (Or.inl ⟨by kernel_rfl, ?_⟩) hS ?_
    rotate_left
    · intro w hSw; (try dsimp only at hSw); go_simp; try (with_reducible rfl)
    (try simp only [Act.put, List.getElem_toArray, List.getElem_cons_succ, List.getElem_cons_zero, List.setIfInBounds_toArray, List.set_cons_zero, List.set_cons_succ])
    refine wpAnyH_take (i := 1) (v := ?_) rfl (by kernel_rfl) (by kernel_rfl) (by kernel_rfl) (fun _ _ _ h => h) (Or.inl ⟨by kernel_rfl, ?_⟩) hS ?_
    rotate_left
    · intro w hSw; (try dsimp only at hSw); go_simp; try (with_reducible rfl)
    (try simp only [Act.put, List.getElem_toArray, List.getElem_cons_succ, List.getElem_cons_zero, List.setIfInBounds_toArray, List.set_cons_zero, List.set_cons_succ])
    refine wpAnyH_take (i := 2) (v := ?_) rfl (by kernel_rfl) (by kernel_rfl) (by kernel_rfl) (fun _ _ _ h => h) (Or.inl ⟨by kernel_rfl, ?_⟩) hS ?_
    rotate_left
    · intro w hSw; (try dsimp only at hSw); go_simp; try (with_reducible rfl)
    (try simp only [Act.put, List.getElem_toArray, List.getElem_cons_succ, List.getElem_cons_zero, List.setIfInBounds_toArray, List.set_cons_zero, List.set_cons_succ])
    refine wpAnyH_take (i := 4) (v := ?_) rfl (by kernel_rfl) (by kernel_rfl) (by kernel_rfl) (fun _ _ _ h => h) (Or.inl ⟨by kernel_rfl, ?_⟩) hS ?_
    rotate_left
    · intro w hSw; (try dsimp only at hSw); go_simp; try (with_reducible rfl)
    (try simp only [Act.put, List.getElem_toArray, List.getElem_cons_succ, List.getElem_cons_zero, List.setIfInBounds_toArray, List.set_cons_zero, List.set_cons_succ])
    refine wpAnyH_take (i := 5) (v := ?_) rfl (by kernel_rfl) (by kernel_rfl) (by kernel_rfl) (fun _ _ _ h => h) (Or.inl ⟨by kernel_rfl, ?_⟩) hS ?_
    rotate_left
    · intro w hSw; (try dsimp only at hSw); go_simp; try (with_reducible rfl)
    (try simp only [Act.put, List.getElem_toArray, List.getElem_cons_succ, List.getElem_cons_zero, List.setIfInBounds_toArray, List.set_cons_zero, List.set_cons_succ])
    refine wpAnyH_take (i := 6) (v := ?_) rfl (by kernel_rfl) (by kernel_rfl) (by kernel_rfl) (fun _ _ _ h => h) (Or.inl ⟨by kernel_rfl, ?_⟩) hS ?_
    rotate_left
    · intro w hSw; (try dsimp only at hSw); go_simp; try (with_reducible rfl)
    (try simp only [Act.put, List.getElem_toArray, List.getElem_cons_succ, List.getElem_cons_zero, List.setIfInBounds_toArray, List.set_cons_zero, List.set_cons_succ])
    refine wpAnyH_ready (rs := [3, 8, 9]) (by kernel_rfl) (by simp) ?_
    refine AllReadyH.cons rfl (fun K1 hK1 => ?_) (AllReadyH.cons rfl (fun K1 hK1 => ?_) (AllReadyH.cons rfl (fun K1 hK1 => ?_) AllReadyH.nil))
    · go_simp
      refine (ca _ Xd.out.1.2).mono ?_
      rintro e w21 ⟨rfl, hb⟩
      have X21 : Hid (Sg w w21 F rb M satp kind mode sum mxr [(p10, 40, wc5 satp 1 mode sum mxr), (p9, 40, wc5 satp 2 mode sum mxr)]) := Xd.out.step hb
      clear hb
      refine hK1.out _ _ ⟨⟨X21.out.cell 1 rfl 0 _ rfl, X21.out.cell 1 rfl 1 _ rfl, X21.out.cell 1 rfl 2 _ rfl, X21.out.cell 1 rfl 3 _ rfl, X21.out.cell 1 rfl 4 _ rfl⟩, X21.out.cell 0 rfl 0 _ rfl, X21.out.cell 0 rfl 1 _ rfl, X21.out.cell 0 rfl 2 _ rfl, X21.out.cell 0 rfl 3 _ rfl, X21.out.cell 0 rfl 4 _ rfl⟩ (fun hS21 => ?_)
      clear hK1 K1 hS
      (try simp only [Act.put, List.getElem_toArray, List.getElem_cons_succ, List.getElem_cons_zero, List.setIfInBounds_toArray, List.set_cons_zero, List.set_cons_succ])
      refine wpAnyH_ready (rs := [7, 8, 9]) (by kernel_rfl) (by simp) ?_
      refine AllReadyH.cons rfl (fun K1 hK1 => ?_) (AllReadyH.cons rfl (fun K1 hK1 => ?_) (AllReadyH.cons rfl (fun K1 hK1 => ?_) AllReadyH.nil))
      · go_simp
        refine (cb _ X21.out.1.2).mono ?_
        rintro e w22 ⟨rfl, hb⟩
        have X22 : Hid (Sg w w22 F rb M satp kind mode sum mxr [(p10, 40, wc5 satp 1 mode sum mxr), (p9, 40, wc5 satp 2 mode sum mxr)]) := X21.out.step hb
        clear hb
        refine hK1.out _ _ ⟨⟨X22.out.cell 1 rfl 0 _ rfl, X22.out.cell 1 rfl 1 _ rfl, X22.out.cell 1 rfl 2 _ rfl, X22.out.cell 1 rfl 3 _ rfl, X22.out.cell 1 rfl 4 _ rfl⟩, X22.out.cell 0 rfl 0 _ rfl, X22.out.cell 0 rfl 1 _ rfl, X22.out.cell 0 rfl 2 _ rfl, X22.out.cell 0 rfl 3 _ rfl, X22.out.cell 0 rfl 4 _ rfl⟩ (fun hS22 => ?_)
        clear hK1 K1 hS21
        (try simp only [Act.put, List.getElem_toArray, List.getElem_cons_succ, List.getElem_cons_zero, List.setIfInBounds_toArray, List.set_cons_zero, List.set_cons_succ])
        refine wpAnyH_ready (rs := [8, 9]) (by kernel_rfl) (by simp) ?_
        refine AllReadyH.cons rfl (fun K1 hK1 => ?_) (AllReadyH.cons rfl (fun K1 hK1 => ?_) AllReadyH.nil)
        · go_simp
          have X23 : Hid (Sg w (w22.alloc (.cells zr 36)) F rb M satp kind mode sum mxr [(w22.heap.size, 36, zr), (p10, 40, wc5 satp 1 mode sum mxr), (p9, 40, wc5 satp 2 mode sum mxr)]) := X22.out.alloc _ _
          refine hK1.out _ (w22.alloc (.cells zr 36)) ⟨⟨X23.out.cell 2 rfl 0 _ rfl, X23.out.cell 2 rfl 1 _ rfl, X23.out.cell 2 rfl 2 _ rfl, X23.out.cell 2 rfl 3 _ rfl, X23.out.cell 2 rfl 4 _ rfl⟩, X23.out.cell 1 rfl 0 _ rfl, X23.out.cell 1 rfl 1 _ rfl, X23.out.cell 1 rfl 2 _ rfl, X23.out.cell 1 rfl 3 _ rfl, X23.out.cell 1 rfl 4 _ rfl⟩ (fun hS23 => ?_)
          clear hK1 K1 hS22
          (try simp only [Act.put, List.getElem_toArray, List.getElem_cons_succ, List.getElem_cons_zero, List.setIfInBounds_toArray, List.set_cons_zero, List.set_cons_succ])
          generalize w22.heap.size = p11 at *
          generalize w22.alloc (.cells zr 36) = w23 at *
          refine wpAnyH_ready (rs := [9]) (by kernel_rfl) (by simp) ?_
          refine AllReadyH.cons rfl (fun K1 hK1 => ?_) AllReadyH.nil
          go_simp
          have X24 : Hid (Sg w (w23.alloc (.cells zr 36)) F rb M satp kind mode sum mxr [(w23.heap.size, 36, zr), (p11, 36, zr), (p10, 40, wc5 satp 1 mode sum mxr), (p9, 40, wc5 satp 2 mode sum mxr)]) := X23.out.alloc _ _
          refine hK1.out _ (w23.alloc (.cells zr 36)) ⟨⟨X24.out.cell 3 rfl 0 _ rfl, X24.out.cell 3 rfl 1 _ rfl, X24.out.cell 3 rfl 2 _ rfl, X24.out.cell 3 rfl 3 _ rfl, X24.out.cell 3 rfl 4 _ rfl⟩, X24.out.cell 2 rfl 0 _ rfl, X24.out.cell 2 rfl 1 _ rfl, X24.out.cell 2 rfl 2 _ rfl, X24.out.cell 2 rfl 3 _ rfl, X24.out.cell 2 rfl 4 _ rfl⟩ (fun hS24 => ?_)
          clear hK1 K1 hS23
          (try simp only [Act.put, List.getElem_toArray, List.getElem_cons_succ, List.getElem_cons_zero, List.setIfInBounds_toArray, List.set_cons_zero, List.set_cons_succ])
          generalize w23.heap.size = p12 at *
          generalize w23.alloc (.cells zr 36) = w24 at *
          refine wpAnyH_ready (rs := [10]) (by kernel_rfl) (by simp) ?_
          refine AllReadyH.cons rfl (fun K1 hK1 => ?_) AllReadyH.nil
          have y0 := X24.out.cell 1 rfl 0 _ rfl
          have z0 := X24.out.frozen 1 rfl 0
          have y1 := X24.out.cell 1 rfl 1 _ rfl
          have z1 := X24.out.frozen 1 rfl 1
          have y2 := X24.out.cell 1 rfl 2 _ rfl
          have z2 := X24.out.frozen 1 rfl 2
          have y3 := X24.out.cell 1 rfl 3 _ rfl
          have z3 := X24.out.frozen 1 rfl 3
          have hset := Bx.set4 (X24.out.get 1 rfl) (.int .u64 (a0 : Nat)) (.bool a1) (.bool a2) (.int .i64 (a3 : Nat))
          have X25 : Hid (Sg w ((((w24.setCell ⟨p11, 0, none⟩ (.int .u64 (a0 : Nat))).setCell ⟨p11, 1, none⟩ (.bool a1)).setCell ⟨p11, 2, none⟩ (.bool a2)).setCell ⟨p11, 3, none⟩ (.int .i64 (a3 : Nat))) F rb M satp kind mode sum mxr [(p12, 36, zr), (p11, 36, #[.int .u64 (a0 : Nat), .bool a1, .bool a2, .int .i64 (a3 : Nat)]), (p10, 40, wc5 satp 1 mode sum mxr), (p9, 40, wc5 satp 2 mode sum mxr)]) := X24.out.set 1 rfl hset.1.1 hset.2
          clear hset
          go_simp
          refine hK1.out _ ((((w24.setCell ⟨p11, 0, none⟩ (.int .u64 (a0 : Nat))).setCell ⟨p11, 1, none⟩ (.bool a1)).setCell ⟨p11, 2, none⟩ (.bool a2)).setCell ⟨p11, 3, none⟩ (.int .i64 (a3 : Nat))) ⟨⟨X25.out.cell 3 rfl 0 _ rfl, X25.out.cell 3 rfl 1 _ rfl, X25.out.cell 3 rfl 2 _ rfl, X25.out.cell 3 rfl 3 _ rfl, X25.out.cell 3 rfl 4 _ rfl⟩, X25.out.cell 2 rfl 0 _ rfl, X25.out.cell 2 rfl 1 _ rfl, X25.out.cell 2 rfl 2 _ rfl, X25.out.cell 2 rfl 3 _ rfl, X25.out.cell 2 rfl 4 _ rfl⟩ (fun hS25 => ?_)
          clear hK1 K1 hS24 y0 z0 y1 z1 y2 z2 y3 z3
          (try simp only [Act.put, List.getElem_toArray, List.getElem_cons_succ, List.getElem_cons_zero, List.setIfInBounds_toArray, List.set_cons_zero, List.set_cons_succ])
          generalize (((w24.setCell ⟨p11, 0, none⟩ (.int .u64 (a0 : Nat))).setCell ⟨p11, 1, none⟩ (.bool a1)).setCell ⟨p11, 2, none⟩ (.bool a2)).setCell ⟨p11, 3, none⟩ (.int .i64 (a3 : Nat)) = w25 at *
          refine wpAnyH_ready (rs := [11]) (by kernel_rfl) (by simp) ?_
          refine AllReadyH.cons rfl (fun K1 hK1 => ?_) AllReadyH.nil
          have y0 := X25.out.cell 0 rfl 0 _ rfl
          have z0 := X25.out.frozen 0 rfl 0
          have y1 := X25.out.cell 0 rfl 1 _ rfl
          have z1 := X25.out.frozen 0 rfl 1
          have y2 := X25.out.cell 0 rfl 2 _ rfl
          have z2 := X25.out.frozen 0 rfl 2
          have y3 := X25.out.cell 0 rfl 3 _ rfl
          have z3 := X25.out.frozen 0 rfl 3
          have hset := Bx.set4 (X25.out.get 0 rfl) (.int .u64 (b0 : Nat)) (.bool b1) (.bool b2) (.int .i64 (b3 : Nat))
          have X26 : Hid (Sg w ((((w25.setCell ⟨p12, 0, none⟩ (.int .u64 (b0 : Nat))).setCell ⟨p12, 1, none⟩ (.bool b1)).setCell ⟨p12, 2, none⟩ (.bool b2)).setCell ⟨p12, 3, none⟩ (.int .i64 (b3 : Nat))) F rb M satp kind mode sum mxr [(p12, 36, #[.int .u64 (b0 : Nat), .bool b1, .bool b2, .int .i64 (b3 : Nat)]), (p11, 36, #[.int .u64 (a0 : Nat), .bool a1, .bool a2, .int .i64 (a3 : Nat)]), (p10, 40, wc5 satp 1 mode sum mxr), (p9, 40, wc5 satp 2 mode sum mxr)]) := X25.out.set 0 rfl hset.1.1 hset.2
          clear hset
          go_simp
          refine hK1.out _ ((((w25.setCell ⟨p12, 0, none⟩ (.int .u64 (b0 : Nat))).setCell ⟨p12, 1, none⟩ (.bool b1)).setCell ⟨p12, 2, none⟩ (.bool b2)).setCell ⟨p12, 3, none⟩ (.int .i64 (b3 : Nat))) ⟨⟨X26.out.cell 3 rfl 0 _ rfl, X26.out.cell 3 rfl 1 _ rfl, X26.out.cell 3 rfl 2 _ rfl, X26.out.cell 3 rfl 3 _ rfl, X26.out.cell 3 rfl 4 _ rfl⟩, X26.out.cell 2 rfl 0 _ rfl, X26.out.cell 2 rfl 1 _ rfl, X26.out.cell 2 rfl 2 _ rfl, X26.out.cell 2 rfl 3 _ rfl, X26.out.cell 2 rfl 4 _ rfl⟩ (fun hS26 => ?_)
          clear hK1 K1 hS25 y0 z0 y1 z1 y2 z2 y3 z3
          (try simp only [Act.put, List.getElem_toArray, List.getElem_cons_succ, List.getElem_cons_zero, List.setIfInBounds_toArray, List.set_cons_zero, List.set_cons_succ])
          generalize (((w25.setCell ⟨p12, 0, none⟩ (.int .u64 (b0 : Nat))).setCell ⟨p12, 1, none⟩ (.bool b1)).setCell ⟨p12, 2, none⟩ (.bool b2)).setCell ⟨p12, 3, none⟩ (.int .i64 (b3 : Nat)) = w26 at *
          refine wpAnyH_done (by kernel_rfl) ?_ _
          clear hS26
          go_wp2_with fail
          go_meet
          exact ⟨p11, p12, rfl, rfl, X26.out⟩
        · go_simp
          have X23 : Hid (Sg w (w22.alloc (.cells zr 36)) F rb M satp kind mode sum mxr [(w22.heap.size, 36, zr), (p10, 40, wc5 satp 1 mode sum mxr), (p9, 40, wc5 satp 2 mode sum mxr)]) := X22.out.alloc _ _
          refine hK1.out _ (w22.alloc (.cells zr 36)) ⟨⟨X23.out.cell 2 rfl 0 _ rfl, X23.out.cell 2 rfl 1 _ rfl, X23.out.cell 2 rfl 2 _ rfl, X23.out.cell 2 rfl 3 _ rfl, X23.out.cell 2 rfl 4 _ rfl⟩, X23.out.cell 1 rfl 0 _ rfl, X23.out.cell 1 rfl 1 _ rfl, X23.out.cell 1 rfl 2 _ rfl, X23.out.cell 1 rfl 3 _ rfl, X23.out.cell 1 rfl 4 _ rfl⟩ (fun hS23 => ?_)
          clear hK1 K1 hS22
          (try simp only [Act.put, List.getElem_toArray, List.getElem_cons_succ, List.getElem_cons_zero, List.setIfInBounds_toArray, List.set_cons_zero, List.set_cons_succ])
          generalize w22.heap.size = p12 at *
          generalize w22.alloc (.cells zr 36) = w23 at *
          refine wpAnyH_ready (rs := [8]) (by kernel_rfl) (by simp) ?_
          refine AllReadyH.cons rfl (fun K1 hK1 => ?_) AllReadyH.nil
          go_simp
          have X24 : Hid (Sg w (w23.alloc (.cells zr 36)) F rb M satp kind mode sum mxr [(w23.heap.size, 36, zr), (p12, 36, zr), (p10, 40, wc5 satp 1 mode sum mxr), (p9, 40, wc5 satp 2 mode sum mxr)]) := X23.out.alloc _ _
          refine hK1.out _ (w23.alloc (.cells zr 36)) ⟨⟨X24.out.cell 3 rfl 0 _ rfl, X24.out.cell 3 rfl 1 _ rfl, X24.out.cell 3 rfl 2 _ rfl, X24.out.cell 3 rfl 3 _ rfl, X24.out.cell 3 rfl 4 _ rfl⟩, X24.out.cell 2 rfl 0 _ rfl, X24.out.cell 2 rfl 1 _ rfl, X24.out.cell 2 rfl 2 _ rfl, X24.out.cell 2 rfl 3 _ rfl, X24.out.cell 2 rfl 4 _ rfl⟩ (fun hS24 => ?_)
          clear hK1 K1 hS23
          (try simp only [Act.put, List.getElem_toArray, List.getElem_cons_succ, List.getElem_cons_zero, List.setIfInBounds_toArray, List.set_cons_zero, List.set_cons_succ])
          generalize w23.heap.size = p11 at *
          generalize w23.alloc (.cells zr 36) = w24 at *
          refine wpAnyH_ready (rs := [10]) (by kernel_rfl) (by simp) ?_
          refine AllReadyH.cons rfl (fun K1 hK1 => ?_) AllReadyH.nil
          have y0 := X24.out.cell 0 rfl 0 _ rfl
          have z0 := X24.out.frozen 0 rfl 0
          have y1 := X24.out.cell 0 rfl 1 _ rfl
          have z1 := X24.out.frozen 0 rfl 1
          have y2 := X24.out.cell 0 rfl 2 _ rfl
          have z2 := X24.out.frozen 0 rfl 2
          have y3 := X24.out.cell 0 rfl 3 _ rfl
          have z3 := X24.out.frozen 0 rfl 3
          have hset := Bx.set4 (X24.out.get 0 rfl) (.int .u64 (a0 : Nat)) (.bool a1) (.bool a2) (.int .i64 (a3 : Nat))
          have X25 : Hid (Sg w ((((w24.setCell ⟨p11, 0, none⟩ (.int .u64 (a0 : Nat))).setCell ⟨p11, 1, none⟩ (.bool a1)).setCell ⟨p11, 2, none⟩ (.bool a2)).setCell ⟨p11, 3, none⟩ (.int .i64 (a3 : Nat))) F rb M satp kind mode sum mxr [(p11, 36, #[.int .u64 (a0 : Nat), .bool a1, .bool a2, .int .i64 (a3 : Nat)]), (p12, 36, zr), (p10, 40, wc5 satp 1 mode sum mxr), (p9, 40, wc5 satp 2 mode sum mxr)]) := X24.out.set 0 rfl hset.1.1 hset.2
          clear hset
          go_simp
          refine hK1.out _ ((((w24.setCell ⟨p11, 0, none⟩ (.int .u64 (a0 : Nat))).setCell ⟨p11, 1, none⟩ (.bool a1)).setCell ⟨p11, 2, none⟩ (.bool a2)).setCell ⟨p11, 3, none⟩ (.int .i64 (a3 : Nat))) ⟨⟨X25.out.cell 3 rfl 0 _ rfl, X25.out.cell 3 rfl 1 _ rfl, X25.out.cell 3 rfl 2 _ rfl, X25.out.cell 3 rfl 3 _ rfl, X25.out.cell 3 rfl 4 _ rfl⟩, X25.out.cell 2 rfl 0 _ rfl, X25.out.cell 2 rfl 1 _ rfl, X25.out.cell 2 rfl 2 _ rfl, X25.out.cell 2 rfl 3 _ rfl, X25.out.cell 2 rfl 4 _ rfl⟩ (fun hS25 => ?_)
          clear hK1 K1 hS24 y0 z0 y1 z1 y2 z2 y3 z3
          (try simp only [Act.put, List.getElem_toArray, List.getElem_cons_succ, List.getElem_cons_zero, List.setIfInBounds_toArray, List.set_cons_zero, List.set_cons_succ])
          generalize (((w24.setCell ⟨p11, 0, none⟩ (.int .u64 (a0 : Nat))).setCell ⟨p11, 1, none⟩ (.bool a1)).setCell ⟨p11, 2, none⟩ (.bool a2)).setCell ⟨p11, 3, none⟩ (.int .i64 (a3 : Nat)) = w25 at *
          refine wpAnyH_ready (rs := [11]) (by kernel_rfl) (by simp) ?_
          refine AllReadyH.cons rfl (fun K1 hK1 => ?_) AllReadyH.nil
          have y0 := X25.out.cell 1 rfl 0 _ rfl
          have z0 := X25.out.frozen 1 rfl 0
          have y1 := X25.out.cell 1 rfl 1 _ rfl
          have z1 := X25.out.frozen 1 rfl 1
          have y2 := X25.out.cell 1 rfl 2 _ rfl
          have z2 := X25.out.frozen 1 rfl 2
          have y3 := X25.out.cell 1 rfl 3 _ rfl
          have z3 := X25.out.frozen 1 rfl 3
          have hset := Bx.set4 (X25.out.get 1 rfl) (.int .u64 (b0 : Nat)) (.bool b1) (.bool b2) (.int .i64 (b3 : Nat))
          have X26 : Hid (Sg w ((((w25.setCell ⟨p12, 0, none⟩ (.int .u64 (b0 : Nat))).setCell ⟨p12, 1, none⟩ (.bool b1)).setCell ⟨p12, 2, none⟩ (.bool b2)).setCell ⟨p12, 3, none⟩ (.int .i64 (b3 : Nat))) F rb M satp kind mode sum mxr [(p11, 36, #[.int .u64 (a0 : Nat), .bool a1, .bool a2, .int .i64 (a3 : Nat)]), (p12, 36, #[.int .u64 (b0 : Nat), .bool b1, .bool b2, .int .i64 (b3 : Nat)]), (p10, 40, wc5 satp 1 mode sum mxr), (p9, 40, wc5 satp 2 mode sum mxr)]) := X25.out.set 1 rfl hset.1.1 hset.2
          clear hset
          go_simp
          refine hK1.out _ ((((w25.setCell ⟨p12, 0, none⟩ (.int .u64 (b0 : Nat))).setCell ⟨p12, 1, none⟩ (.bool b1)).setCell ⟨p12, 2, none⟩ (.bool b2)).setCell ⟨p12, 3, none⟩ (.int .i64 (b3 : Nat))) ⟨⟨X26.out.cell 3 rfl 0 _ rfl, X26.out.cell 3 rfl 1 _ rfl, X26.out.cell 3 rfl 2 _ rfl, X26.out.cell 3 rfl 3 _ rfl, X26.out.cell 3 rfl 4 _ rfl⟩, X26.out.cell 2 rfl 0 _ rfl, X26.out.cell 2 rfl 1 _ rfl, X26.out.cell 2 rfl 2 _ rfl, X26.out.cell 2 rfl 3 _ rfl, X26.out.cell 2 rfl 4 _ rfl⟩ (fun hS26 => ?_)
          clear hK1 K1 hS25 y0 z0 y1 z1 y2 z2 y3 z3
          (try simp only [Act.put, List.getElem_toArray, List.getElem_cons_succ, List.getElem_cons_zero, List.setIfInBounds_toArray, List.set_cons_zero, List.set_cons_succ])
          generalize (((w25.setCell ⟨p12, 0, none⟩ (.int .u64 (b0 : Nat))).setCell ⟨p12, 1, none⟩ (.bool b1)).setCell ⟨p12, 2, none⟩ (.bool b2)).setCell ⟨p12, 3, none⟩ (.int .i64 (b3 : Nat)) = w26 at *
          refine wpAnyH_done (by kernel_rfl) ?_ _
          clear hS26
          go_wp2_with fail
          go_meet
          exact ⟨p11, p12, rfl, rfl, X26.out.swap⟩
      · go_simp
        have X22 : Hid (Sg w (w21.alloc (.cells zr 36)) F rb M satp kind mode sum mxr [(w21.heap.size, 36, zr), (p10, 40, wc5 satp 1 mode sum mxr), (p9, 40, wc5 satp 2 mode sum mxr)]) := X21.out.alloc _ _
        refine hK1.out _ (w21.alloc (.cells zr 36)) ⟨⟨X22.out.cell 2 rfl 0 _ rfl, X22.out.cell 2 rfl 1 _ rfl, X22.out.cell 2 rfl 2 _ rfl, X22.out.cell 2 rfl 3 _ rfl, X22.out.cell 2 rfl 4 _ rfl⟩, X22.out.cell 1 rfl 0 _ rfl, X22.out.cell 1 rfl 1 _ rfl, X22.out.cell 1 rfl 2 _ rfl, X22.out.cell 1 rfl 3 _ rfl, X22.out.cell 1 rfl 4 _ rfl⟩ (fun hS22 => ?_)
        clear hK1 K1 hS21
        (try simp only [Act.put, List.getElem_toArray, List.getElem_cons_succ, List.getElem_cons_zero, List.setIfInBounds_toArray, List.set_cons_zero, List.set_cons_succ])
        generalize w21.heap.size = p11 at *
        generalize w21.alloc (.cells zr 36) = w22 at *
        refine wpAnyH_ready (rs := [7, 9]) (by kernel_rfl) (by simp) ?_
        refine AllReadyH.cons rfl (fun K1 hK1 => ?_) (AllReadyH.cons rfl (fun K1 hK1 => ?_) AllReadyH.nil)
        · go_simp
          refine (cb _ X22.out.1.2).mono ?_
          rintro e w23 ⟨rfl, hb⟩
          have X23 : Hid (Sg w w23 F rb M satp kind mode sum mxr [(p11, 36, zr), (p10, 40, wc5 satp 1 mode sum mxr), (p9, 40, wc5 satp 2 mode sum mxr)]) := X22.out.step hb
          clear hb
          refine hK1.out _ _ ⟨⟨X23.out.cell 2 rfl 0 _ rfl, X23.out.cell 2 rfl 1 _ rfl, X23.out.cell 2 rfl 2 _ rfl, X23.out.cell 2 rfl 3 _ rfl, X23.out.cell 2 rfl 4 _ rfl⟩, X23.out.cell 1 rfl 0 _ rfl, X23.out.cell 1 rfl 1 _ rfl, X23.out.cell 1 rfl 2 _ rfl, X23.out.cell 1 rfl 3 _ rfl, X23.out.cell 1 rfl 4 _ rfl⟩ (fun hS23 => ?_)
          clear hK1 K1 hS22
          (try simp only [Act.put, List.getElem_toArray, List.getElem_cons_succ, List.getElem_cons_zero, List.setIfInBounds_toArray, List.set_cons_zero, List.set_cons_succ])
          refine wpAnyH_ready (rs := [9]) (by kernel_rfl) (by simp) ?_
          refine AllReadyH.cons rfl (fun K1 hK1 => ?_) AllReadyH.nil
          go_simp
          have X24 : Hid (Sg w (w23.alloc (.cells zr 36)) F rb M satp kind mode sum mxr [(w23.heap.size, 36, zr), (p11, 36, zr), (p10, 40, wc5 satp 1 mode sum mxr), (p9, 40, wc5 satp 2 mode sum mxr)]) := X23.out.alloc _ _
          refine hK1.out _ (w23.alloc (.cells zr 36)) ⟨⟨X24.out.cell 3 rfl 0 _ rfl, X24.out.cell 3 rfl 1 _ rfl, X24.out.cell 3 rfl 2 _ rfl, X24.out.cell 3 rfl 3 _ rfl, X24.out.cell 3 rfl 4 _ rfl⟩, X24.out.cell 2 rfl 0 _ rfl, X24.out.cell 2 rfl 1 _ rfl, X24.out.cell 2 rfl 2 _ rfl, X24.out.cell 2 rfl 3 _ rfl, X24.out.cell 2 rfl 4 _ rfl⟩ (fun hS24 => ?_)
          clear hK1 K1 hS23
          (try simp only [Act.put, List.getElem_toArray, List.getElem_cons_succ, List.getElem_cons_zero, List.setIfInBounds_toArray, List.set_cons_zero, List.set_cons_succ])
          generalize w23.heap.size = p12 at *
          generalize w23.alloc (.cells zr 36) = w24 at *
          refine wpAnyH_ready (rs := [10]) (by kernel_rfl) (by simp) ?_
          refine AllReadyH.cons rfl (fun K1 hK1 => ?_) AllReadyH.nil
          have y0 := X24.out.cell 1 rfl 0 _ rfl
          have z0 := X24.out.frozen 1 rfl 0
          have y1 := X24.out.cell 1 rfl 1 _ rfl
          have z1 := X24.out.frozen 1 rfl 1
          have y2 := X24.out.cell 1 rfl 2 _ rfl
          have z2 := X24.out.frozen 1 rfl 2
          have y3 := X24.out.cell 1 rfl 3 _ rfl
          have z3 := X24.out.frozen 1 rfl 3
          have hset := Bx.set4 (X24.out.get 1 rfl) (.int .u64 (a0 : Nat)) (.bool a1) (.bool a2) (.int .i64 (a3 : Nat))
          have X25 : Hid (Sg w ((((w24.setCell ⟨p11, 0, none⟩ (.int .u64 (a0 : Nat))).setCell ⟨p11, 1, none⟩ (.bool a1)).setCell ⟨p11, 2, none⟩ (.bool a2)).setCell ⟨p11, 3, none⟩ (.int .i64 (a3 : Nat))) F rb M satp kind mode sum mxr [(p12, 36, zr), (p11, 36, #[.int .u64 (a0 : Nat), .bool a1, .bool a2, .int .i64 (a3 : Nat)]), (p10, 40, wc5 satp 1 mode sum mxr), (p9, 40, wc5 satp 2 mode sum mxr)]) := X24.out.set 1 rfl hset.1.1 hset.2
          clear hset
          go_simp
          refine hK1.out _ ((((w24.setCell ⟨p11, 0, none⟩ (.int .u64 (a0 : Nat))).setCell ⟨p11, 1, none⟩ (.bool a1)).setCell ⟨p11, 2, none⟩ (.bool a2)).setCell ⟨p11, 3, none⟩ (.int .i64 (a3 : Nat))) ⟨⟨X25.out.cell 3 rfl 0 _ rfl, X25.out.cell 3 rfl 1 _ rfl, X25.out.cell 3 rfl 2 _ rfl, X25.out.cell 3 rfl 3 _ rfl, X25.out.cell 3 rfl 4 _ rfl⟩, X25.out.cell 2 rfl 0 _ rfl, X25.out.cell 2 rfl 1 _ rfl, X25.out.cell 2 rfl 2 _ rfl, X25.out.cell 2 rfl 3 _ rfl, X25.out.cell 2 rfl 4 _ rfl⟩ (fun hS25 => ?_)
          clear hK1 K1 hS24 y0 z0 y1 z1 y2 z2 y3 z3
          (try simp only [Act.put, List.getElem_toArray, List.getElem_cons_succ, List.getElem_cons_zero, List.setIfInBounds_toArray, List.set_cons_zero, List.set_cons_succ])
          generalize (((w24.setCell ⟨p11, 0, none⟩ (.int .u64 (a0 : Nat))).setCell ⟨p11, 1, none⟩ (.bool a1)).setCell ⟨p11, 2, none⟩ (.bool a2)).setCell ⟨p11, 3, none⟩ (.int .i64 (a3 : Nat)) = w25 at *
          refine wpAnyH_ready (rs := [11]) (by kernel_rfl) (by simp) ?_
          refine AllReadyH.cons rfl (fun K1 hK1 => ?_) AllReadyH.nil
          have y0 := X25.out.cell 0 rfl 0 _ rfl
          have z0 := X25.out.frozen 0 rfl 0
          have y1 := X25.out.cell 0 rfl 1 _ rfl
          have z1 := X25.out.frozen 0 rfl 1
          have y2 := X25.out.cell 0 rfl 2 _ rfl
          have z2 := X25.out.frozen 0 rfl 2
          have y3 := X25.out.cell 0 rfl 3 _ rfl
          have z3 := X25.out.frozen 0 rfl 3
          have hset := Bx.set4 (X25.out.get 0 rfl) (.int .u64 (b0 : Nat)) (.bool b1) (.bool b2) (.int .i64 (b3 : Nat))
          have X26 : Hid (Sg w ((((w25.setCell ⟨p12, 0, none⟩ (.int .u64 (b0 : Nat))).setCell ⟨p12, 1, none⟩ (.bool b1)).setCell ⟨p12, 2, none⟩ (.bool b2)).setCell ⟨p12, 3, none⟩ (.int .i64 (b3 : Nat))) F rb M satp kind mode sum mxr [(p12, 36, #[.int .u64 (b0 : Nat), .bool b1, .bool b2, .int .i64 (b3 : Nat)]), (p11, 36, #[.int .u64 (a0 : Nat), .bool a1, .bool a2, .int .i64 (a3 : Nat)]), (p10, 40, wc5 satp 1 mode sum mxr), (p9, 40, wc5 satp 2 mode sum mxr)]) := X25.out.set 0 rfl hset.1.1 hset.2
          clear hset
          go_simp
          refine hK1.out _ ((((w25.setCell ⟨p12, 0, none⟩ (.int .u64 (b0 : Nat))).setCell ⟨p12, 1, none⟩ (.bool b1)).setCell ⟨p12, 2, none⟩ (.bool b2)).setCell ⟨p12, 3, none⟩ (.int .i64 (b3 : Nat))) ⟨⟨X26.out.cell 3 rfl 0 _ rfl, X26.out.cell 3 rfl 1 _ rfl, X26.out.cell 3 rfl 2 _ rfl, X26.out.cell 3 rfl 3 _ rfl, X26.out.cell 3 rfl 4 _ rfl⟩, X26.out.cell 2 rfl 0 _ rfl, X26.out.cell 2 rfl 1 _ rfl, X26.out.cell 2 rfl 2 _ rfl, X26.out.cell 2 rfl 3 _ rfl, X26.out.cell 2 rfl 4 _ rfl⟩ (fun hS26 => ?_)
          clear hK1 K1 hS25 y0 z0 y1 z1 y2 z2 y3 z3
          (try simp only [Act.put, List.getElem_toArray, List.getElem_cons_succ, List.getElem_cons_zero, List.setIfInBounds_toArray, List.set_cons_zero, List.set_cons_succ])
          generalize (((w25.setCell ⟨p12, 0, none⟩ (.int .u64 (b0 : Nat))).setCell ⟨p12, 1, none⟩ (.bool b1)).setCell ⟨p12, 2, none⟩ (.bool b2)).setCell ⟨p12, 3, none⟩ (.int .i64 (b3 : Nat)) = w26 at *
          refine wpAnyH_done (by kernel_rfl) ?_ _
          clear hS26
          go_wp2_with fail
          go_meet
          exact ⟨p11, p12, rfl, rfl, X26.out⟩
        · go_simp
          have X23 : Hid (Sg w (w22.alloc (.cells zr 36)) F rb M satp kind mode sum mxr [(w22.heap.size, 36, zr), (p11, 36, zr), (p10, 40, wc5 satp 1 mode sum mxr), (p9, 40, wc5 satp 2 mode sum mxr)]) := X22.out.alloc _ _
          refine hK1.out _ (w22.alloc (.cells zr 36)) ⟨⟨X23.out.cell 3 rfl 0 _ rfl, X23.out.cell 3 rfl 1 _ rfl, X23.out.cell 3 rfl 2 _ rfl, X23.out.cell 3 rfl 3 _ rfl, X23.out.cell 3 rfl 4 _ rfl⟩, X23.out.cell 2 rfl 0 _ rfl, X23.out.cell 2 rfl 1 _ rfl, X23.out.cell 2 rfl 2 _ rfl, X23.out.cell 2 rfl 3 _ rfl, X23.out.cell 2 rfl 4 _ rfl⟩ (fun hS23 => ?_)
          clear hK1 K1 hS22
          (try simp only [Act.put, List.getElem_toArray, List.getElem_cons_succ, List.getElem_cons_zero, List.setIfInBounds_toArray, List.set_cons_zero, List.set_cons_succ])
          generalize w22.heap.size = p12 at *
          generalize w22.alloc (.cells zr 36) = w23 at *
          refine wpAnyH_ready (rs := [7]) (by kernel_rfl) (by simp) ?_
          refine AllReadyH.cons rfl (fun K1 hK1 => ?_) AllReadyH.nil
          go_simp
          refine (cb _ X23.out.1.2).mono ?_
          rintro e w24 ⟨rfl, hb⟩
          have X24 : Hid (Sg w w24 F rb M satp kind mode sum mxr [(p12, 36, zr), (p11, 36, zr), (p10, 40, wc5 satp 1 mode sum mxr), (p9, 40, wc5 satp 2 mode sum mxr)]) := X23.out.step hb
          clear hb
          refine hK1.out _ _ ⟨⟨X24.out.cell 3 rfl 0 _ rfl, X24.out.cell 3 rfl 1 _ rfl, X24.out.cell 3 rfl 2 _ rfl, X24.out.cell 3 rfl 3 _ rfl, X24.out.cell 3 rfl 4 _ rfl⟩, X24.out.cell 2 rfl 0 _ rfl, X24.out.cell 2 rfl 1 _ rfl, X24.out.cell 2 rfl 2 _ rfl, X24.out.cell 2 rfl 3 _ rfl, X24.out.cell 2 rfl 4 _ rfl⟩ (fun hS24 => ?_)
          clear hK1 K1 hS23
          (try simp only [Act.put, List.getElem_toArray, List.getElem_cons_succ, List.getElem_cons_zero, List.setIfInBounds_toArray, List.set_cons_zero, List.set_cons_succ])
          refine wpAnyH_ready (rs := [10]) (by kernel_rfl) (by simp) ?_
          refine AllReadyH.cons rfl (fun K1 hK1 => ?_) AllReadyH.nil
          have y0 := X24.out.cell 1 rfl 0 _ rfl
          have z0 := X24.out.frozen 1 rfl 0
          have y1 := X24.out.cell 1 rfl 1 _ rfl
          have z1 := X24.out.frozen 1 rfl 1
          have y2 := X24.out.cell 1 rfl 2 _ rfl
          have z2 := X24.out.frozen 1 rfl 2
          have y3 := X24.out.cell 1 rfl 3 _ rfl
          have z3 := X24.out.frozen 1 rfl 3
          have hset := Bx.set4 (X24.out.get 1 rfl) (.int .u64 (a0 : Nat)) (.bool a1) (.bool a2) (.int .i64 (a3 : Nat))
          have X25 : Hid (Sg w ((((w24.setCell ⟨p11, 0, none⟩ (.int .u64 (a0 : Nat))).setCell ⟨p11, 1, none⟩ (.bool a1)).setCell ⟨p11, 2, none⟩ (.bool a2)).setCell ⟨p11, 3, none⟩ (.int .i64 (a3 : Nat))) F rb M satp kind mode sum mxr [(p12, 36, zr), (p11, 36, #[.int .u64 (a0 : Nat), .bool a1, .bool a2, .int .i64 (a3 : Nat)]), (p10, 40, wc5 satp 1 mode sum mxr), (p9, 40, wc5 satp 2 mode sum mxr)]) := X24.out.set 1 rfl hset.1.1 hset.2
          clear hset
          go_simp
          refine hK1.out _ ((((w24.setCell ⟨p11, 0, none⟩ (.int .u64 (a0 : Nat))).setCell ⟨p11, 1, none⟩ (.bool a1)).setCell ⟨p11, 2, none⟩ (.bool a2)).setCell ⟨p11, 3, none⟩ (.int .i64 (a3 : Nat))) ⟨⟨X25.out.cell 3 rfl 0 _ rfl, X25.out.cell 3 rfl 1 _ rfl, X25.out.cell 3 rfl 2 _ rfl, X25.out.cell 3 rfl 3 _ rfl, X25.out.cell 3 rfl 4 _ rfl⟩, X25.out.cell 2 rfl 0 _ rfl, X25.out.cell 2 rfl 1 _ rfl, X25.out.cell 2 rfl 2 _ rfl, X25.out.cell 2 rfl 3 _ rfl, X25.out.cell 2 rfl 4 _ rfl⟩ (fun hS25 => ?_)
          clear hK1 K1 hS24 y0 z0 y1 z1 y2 z2 y3 z3
          (try simp only [Act.put, List.getElem_toArray, List.getElem_cons_succ, List.getElem_cons_zero, List.setIfInBounds_toArray, List.set_cons_zero, List.set_cons_succ])
          generalize (((w24.setCell ⟨p11, 0, none⟩ (.int .u64 (a0 : Nat))).setCell ⟨p11, 1, none⟩ (.bool a1)).setCell ⟨p11, 2, none⟩ (.bool a2)).setCell ⟨p11, 3, none⟩ (.int .i64 (a3 : Nat)) = w25 at *
          refine wpAnyH_ready (rs := [11]) (by kernel_rfl) (by simp) ?_
          refine AllReadyH.cons rfl (fun K1 hK1 => ?_) AllReadyH.nil
          have y0 := X25.out.cell 0 rfl 0 _ rfl
          have z0 := X25.out.frozen 0 rfl 0
          have y1 := X25.out.cell 0 rfl 1 _ rfl
          have z1 := X25.out.frozen 0 rfl 1
          have y2 := X25.out.cell 0 rfl 2 _ rfl
          have z2 := X25.out.frozen 0 rfl 2
          have y3 := X25.out.cell 0 rfl 3 _ rfl
          have z3 := X25.out.frozen 0 rfl 3
          have hset := Bx.set4 (X25.out.get 0 rfl) (.int .u64 (b0 : Nat)) (.bool b1) (.bool b2) (.int .i64 (b3 : Nat))
          have X26 : Hid (Sg w ((((w25.setCell ⟨p12, 0, none⟩ (.int .u64 (b0 : Nat))).setCell ⟨p12, 1, none⟩ (.bool b1)).setCell ⟨p12, 2, none⟩ (.bool b2)).setCell ⟨p12, 3, none⟩ (.int .i64 (b3 : Nat))) F rb M satp kind mode sum mxr [(p12, 36, #[.int .u64 (b0 : Nat), .bool b1, .bool b2, .int .i64 (b3 : Nat)]), (p11, 36, #[.int .u64 (a0 : Nat), .bool a1, .bool a2, .int .i64 (a3 : Nat)]), (p10, 40, wc5 satp 1 mode sum mxr), (p9, 40, wc5 satp 2 mode sum mxr)]) := X25.out.set 0 rfl hset.1.1 hset.2
          clear hset
          go_simp
          refine hK1.out _ ((((w25.setCell ⟨p12, 0, none⟩ (.int .u64 (b0 : Nat))).setCell ⟨p12, 1, none⟩ (.bool b1)).setCell ⟨p12, 2, none⟩ (.bool b2)).setCell ⟨p12, 3, none⟩ (.int .i64 (b3 : Nat))) ⟨⟨X26.out.cell 3 rfl 0 _ rfl, X26.out.cell 3 rfl 1 _ rfl, X26.out.cell 3 rfl 2 _ rfl, X26.out.cell 3 rfl 3 _ rfl, X26.out.cell 3 rfl 4 _ rfl⟩, X26.out.cell 2 rfl 0 _ rfl, X26.out.cell 2 rfl 1 _ rfl, X26.out.cell 2 rfl 2 _ rfl, X26.out.cell 2 rfl 3 _ rfl, X26.out.cell 2 rfl 4 _ rfl⟩ (fun hS26 => ?_)
          clear hK1 K1 hS25 y0 z0 y1 z1 y2 z2 y3 z3
          (try simp only [Act.put, List.getElem_toArray, List.getElem_cons_succ, List.getElem_cons_zero, List.setIfInBounds_toArray, List.set_cons_zero, List.set_cons_succ])
          generalize (((w25.setCell ⟨p12, 0, none⟩ (.int .u64 (b0 : Nat))).setCell ⟨p12, 1, none⟩ (.bool b1)).setCell ⟨p12, 2, none⟩ (.bool b2)).setCell ⟨p12, 3, none⟩ (.int .i64 (b3 : Nat)) = w26 at *
          refine wpAnyH_done (by kernel_rfl) ?_ _
          clear hS26
          go_wp2_with fail
          go_meet
          exact ⟨p11, p12, rfl, rfl, X26.out⟩
      · go_simp
        have X22 : Hid (Sg w (w21.alloc (.cells zr 36)) F rb M satp kind mode sum mxr [(w21.heap.size, 36, zr), (p10, 40, wc5 satp 1 mode sum mxr), (p9, 40, wc5 satp 2 mode sum mxr)]) := X21.out.alloc _ _
        refine hK1.out _ (w21.alloc (.cells zr 36)) ⟨⟨X22.out.cell 2 rfl 0 _ rfl, X22.out.cell 2 rfl 1 _ rfl, X22.out.cell 2 rfl 2 _ rfl, X22.out.cell 2 rfl 3 _ rfl, X22.out.cell 2 rfl 4 _ rfl⟩, X22.out.cell 1 rfl 0 _ rfl, X22.out.cell 1 rfl 1 _ rfl, X22.out.cell 1 rfl 2 _ rfl, X22.out.cell 1 rfl 3 _ rfl, X22.out.cell 1 rfl 4 _ rfl⟩ (fun hS22 => ?_)
        clear hK1 K1 hS21
        (try simp only [Act.put, List.getElem_toArray, List.getElem_cons_succ, List.getElem_cons_zero, List.setIfInBounds_toArray, List.set_cons_zero, List.set_cons_succ])
        generalize w21.heap.size = p12 at *
        generalize w21.alloc (.cells zr 36) = w22 at *
        refine wpAnyH_ready (rs := [7, 8]) (by kernel_rfl) (by simp) ?_
        refine AllReadyH.cons rfl (fun K1 hK1 => ?_) (AllReadyH.cons rfl (fun K1 hK1 => ?_) AllReadyH.nil)
        · go_simp
          refine (cb _ X22.out.1.2).mono ?_
          rintro e w23 ⟨rfl, hb⟩
          have X23 : Hid (Sg w w23 F rb M satp kind mode sum mxr [(p12, 36, zr), (p10, 40, wc5 satp 1 mode sum mxr), (p9, 40, wc5 satp 2 mode sum mxr)]) := X22.out.step hb
          clear hb
          refine hK1.out _ _ ⟨⟨X23.out.cell 2 rfl 0 _ rfl, X23.out.cell 2 rfl 1 _ rfl, X23.out.cell 2 rfl 2 _ rfl, X23.out.cell 2 rfl 3 _ rfl, X23.out.cell 2 rfl 4 _ rfl⟩, X23.out.cell 1 rfl 0 _ rfl, X23.out.cell 1 rfl 1 _ rfl, X23.out.cell 1 rfl 2 _ rfl, X23.out.cell 1 rfl 3 _ rfl, X23.out.cell 1 rfl 4 _ rfl⟩ (fun hS23 => ?_)
          clear hK1 K1 hS22
          (try simp only [Act.put, List.getElem_toArray, List.getElem_cons_succ, List.getElem_cons_zero, List.setIfInBounds_toArray, List.set_cons_zero, List.set_cons_succ])
          refine wpAnyH_ready (rs := [8]) (by kernel_rfl) (by simp) ?_
          refine AllReadyH.cons rfl (fun K1 hK1 => ?_) AllReadyH.nil
          go_simp
          have X24 : Hid (Sg w (w23.alloc (.cells zr 36)) F rb M satp kind mode sum mxr [(w23.heap.size, 36, zr), (p12, 36, zr), (p10, 40, wc5 satp 1 mode sum mxr), (p9, 40, wc5 satp 2 mode sum mxr)]) := X23.out.alloc _ _
          refine hK1.out _ (w23.alloc (.cells zr 36)) ⟨⟨X24.out.cell 3 rfl 0 _ rfl, X24.out.cell 3 rfl 1 _ rfl, X24.out.cell 3 rfl 2 _ rfl, X24.out.cell 3 rfl 3 _ rfl, X24.out.cell 3 rfl 4 _ rfl⟩, X24.out.cell 2 rfl 0 _ rfl, X24.out.cell 2 rfl 1 _ rfl, X24.out.cell 2 rfl 2 _ rfl, X24.out.cell 2 rfl 3 _ rfl, X24.out.cell 2 rfl 4 _ rfl⟩ (fun hS24 => ?_)
          clear hK1 K1 hS23
          (try simp only [Act.put, List.getElem_toArray, List.getElem_cons_succ, List.getElem_cons_zero, List.setIfInBounds_toArray, List.set_cons_zero, List.set_cons_succ])
          generalize w23.heap.size = p11 at *
          generalize w23.alloc (.cells zr 36) = w24 at *
          refine wpAnyH_ready (rs := [10]) (by kernel_rfl) (by simp) ?_
          refine AllReadyH.cons rfl (fun K1 hK1 => ?_) AllReadyH.nil
          have y0 := X24.out.cell 0 rfl 0 _ rfl
          have z0 := X24.out.frozen 0 rfl 0
          have y1 := X24.out.cell 0 rfl 1 _ rfl
          have z1 := X24.out.frozen 0 rfl 1
          have y2 := X24.out.cell 0 rfl 2 _ rfl
          have z2 := X24.out.frozen 0 rfl 2
          have y3 := X24.out.cell 0 rfl 3 _ rfl
          have z3 := X24.out.frozen 0 rfl 3
          have hset := Bx.set4 (X24.out.get 0 rfl) (.int .u64 (a0 : Nat)) (.bool a1) (.bool a2) (.int .i64 (a3 : Nat))
          have X25 : Hid (Sg w ((((w24.setCell ⟨p11, 0, none⟩ (.int .u64 (a0 : Nat))).setCell ⟨p11, 1, none⟩ (.bool a1)).setCell ⟨p11, 2, none⟩ (.bool a2)).setCell ⟨p11, 3, none⟩ (.int .i64 (a3 : Nat))) F rb M satp kind mode sum mxr [(p11, 36, #[.int .u64 (a0 : Nat), .bool a1, .bool a2, .int .i64 (a3 : Nat)]), (p12, 36, zr), (p10, 40, wc5 satp 1 mode sum mxr), (p9, 40, wc5 satp 2 mode sum mxr)]) := X24.out.set 0 rfl hset.1.1 hset.2
          clear hset
          go_simp
          refine hK1.out _ ((((w24.setCell ⟨p11, 0, none⟩ (.int .u64 (a0 : Nat))).setCell ⟨p11, 1, none⟩ (.bool a1)).setCell ⟨p11, 2, none⟩ (.bool a2)).setCell ⟨p11, 3, none⟩ (.int .i64 (a3 : Nat))) ⟨⟨X25.out.cell 3 rfl 0 _ rfl, X25.out.cell 3 rfl 1 _ rfl, X25.out.cell 3 rfl 2 _ rfl, X25.out.cell 3 rfl 3 _ rfl, X25.out.cell 3 rfl 4 _ rfl⟩, X25.out.cell 2 rfl 0 _ rfl, X25.out.cell 2 rfl 1 _ rfl, X25.out.cell 2 rfl 2 _ rfl, X25.out.cell 2 rfl 3 _ rfl, X25.out.cell 2 rfl 4 _ rfl⟩ (fun hS25 => ?_)
          clear hK1 K1 hS24 y0 z0 y1 z1 y2 z2 y3 z3
          (try simp only [Act.put, List.getElem_toArray, List.getElem_cons_succ, List.getElem_cons_zero, List.setIfInBounds_toArray, List.set_cons_zero, List.set_cons_succ])
          generalize (((w24.setCell ⟨p11, 0, none⟩ (.int .u64 (a0 : Nat))).setCell ⟨p11, 1, none⟩ (.bool a1)).setCell ⟨p11, 2, none⟩ (.bool a2)).setCell ⟨p11, 3, none⟩ (.int .i64 (a3 : Nat)) = w25 at *
          refine wpAnyH_ready (rs := [11]) (by kernel_rfl) (by simp) ?_
          refine AllReadyH.cons rfl (fun K1 hK1 => ?_) AllReadyH.nil
          have y0 := X25.out.cell 1 rfl 0 _ rfl
          have z0 := X25.out.frozen 1 rfl 0
          have y1 := X25.out.cell 1 rfl 1 _ rfl
          have z1 := X25.out.frozen 1 rfl 1
          have y2 := X25.out.cell 1 rfl 2 _ rfl
          have z2 := X25.out.frozen 1 rfl 2
          have y3 := X25.out.cell 1 rfl 3 _ rfl
          have z3 := X25.out.frozen 1 rfl 3
          have hset := Bx.set4 (X25.out.get 1 rfl) (.int .u64 (b0 : Nat)) (.bool b1) (.bool b2) (.int .i64 (b3 : Nat))
          have X26 : Hid (Sg w ((((w25.setCell ⟨p12, 0, none⟩ (.int .u64 (b0 : Nat))).setCell ⟨p12, 1, none⟩ (.bool b1)).setCell ⟨p12, 2, none⟩ (.bool b2)).setCell ⟨p12, 3, none⟩ (.int .i64 (b3 : Nat))) F rb M satp kind mode sum mxr [(p11, 36, #[.int .u64 (a0 : Nat), .bool a1, .bool a2, .int .i64 (a3 : Nat)]), (p12, 36, #[.int .u64 (b0 : Nat), .bool b1, .bool b2, .int .i64 (b3 : Nat)]), (p10, 40, wc5 satp 1 mode sum mxr), (p9, 40, wc5 satp 2 mode sum mxr)]) := X25.out.set 1 rfl hset.1.1 hset.2
          clear hset
          go_simp
          refine hK1.out _ ((((w25.setCell ⟨p12, 0, none⟩ (.int .u64 (b0 : Nat))).setCell ⟨p12, 1, none⟩ (.bool b1)).setCell ⟨p12, 2, none⟩ (.bool b2)).setCell ⟨p12, 3, none⟩ (.int .i64 (b3 : Nat))) ⟨⟨X26.out.cell 3 rfl 0 _ rfl, X26.out.cell 3 rfl 1 _ rfl, X26.out.cell 3 rfl 2 _ rfl, X26.out.cell 3 rfl 3 _ rfl, X26.out.cell 3 rfl 4 _ rfl⟩, X26.out.cell 2 rfl 0 _ rfl, X26.out.cell 2 rfl 1 _ rfl, X26.out.cell 2 rfl 2 _ rfl, X26.out.cell 2 rfl 3 _ rfl, X26.out.cell 2 rfl 4 _ rfl⟩ (fun hS26 => ?_)
          clear hK1 K1 hS25 y0 z0 y1 z1 y2 z2 y3 z3
          (try simp only [Act.put, List.getElem_toArray, List.getElem_cons_succ, List.getElem_cons_zero, List.setIfInBounds_toArray, List.set_cons_zero, List.set_cons_succ])
          generalize (((w25.setCell ⟨p12, 0, none⟩ (.int .u64 (b0 : Nat))).setCell ⟨p12, 1, none⟩ (.bool b1)).setCell ⟨p12, 2, none⟩ (.bool b2)).setCell ⟨p12, 3, none⟩ (.int .i64 (b3 : Nat)) = w26 at *
          refine wpAnyH_done (by kernel_rfl) ?_ _
          clear hS26
          go_wp2_with fail
          go_meet
          exact ⟨p11, p12, rfl, rfl, X26.out.swap⟩
        · go_simp
          have X23 : Hid (Sg w (w22.alloc (.cells zr 36)) F rb M satp kind mode sum mxr [(w22.heap.size, 36, zr), (p12, 36, zr), (p10, 40, wc5 satp 1 mode sum mxr), (p9, 40, wc5 satp 2 mode sum mxr)]) := X22.out.alloc _ _
          refine hK1.out _ (w22.alloc (.cells zr 36)) ⟨⟨X23.out.cell 3 rfl 0 _ rfl, X23.out.cell 3 rfl 1 _ rfl, X23.out.cell 3 rfl 2 _ rfl, X23.out.cell 3 rfl 3 _ rfl, X23.out.cell 3 rfl 4 _ rfl⟩, X23.out.cell 2 rfl 0 _ rfl, X23.out.cell 2 rfl 1 _ rfl, X23.out.cell 2 rfl 2 _ rfl, X23.out.cell 2 rfl 3 _ rfl, X23.out.cell 2 rfl 4 _ rfl⟩ (fun hS23 => ?_)
          clear hK1 K1 hS22
          (try simp only [Act.put, List.getElem_toArray, List.getElem_cons_succ, List.getElem_cons_zero, List.setIfInBounds_toArray, List.set_cons_zero, List.set_cons_succ])
          generalize w22.heap.size = p11 at *
          generalize w22.alloc (.cells zr 36) = w23 at *
          refine wpAnyH_ready (rs := [7]) (by kernel_rfl) (by simp) ?_
          refine AllReadyH.cons rfl (fun K1 hK1 => ?_) AllReadyH.nil
          go_simp
          refine (cb _ X23.out.1.2).mono ?_
          rintro e w24 ⟨rfl, hb⟩
          have X24 : Hid (Sg w w24 F rb M satp kind mode sum mxr [(p11, 36, zr), (p12, 36, zr), (p10, 40, wc5 satp 1 mode sum mxr), (p9, 40, wc5 satp 2 mode sum mxr)]) := X23.out.step hb
          clear hb
          refine hK1.out _ _ ⟨⟨X24.out.cell 3 rfl 0 _ rfl, X24.out.cell 3 rfl 1 _ rfl, X24.out.cell 3 rfl 2 _ rfl, X24.out.cell 3 rfl 3 _ rfl, X24.out.cell 3 rfl 4 _ rfl⟩, X24.out.cell 2 rfl 0 _ rfl, X24.out.cell 2 rfl 1 _ rfl, X24.out.cell 2 rfl 2 _ rfl, X24.out.cell 2 rfl 3 _ rfl, X24.out.cell 2 rfl 4 _ rfl⟩ (fun hS24 => ?_)
          clear hK1 K1 hS23
          (try simp only [Act.put, List.getElem_toArray, List.getElem_cons_succ, List.getElem_cons_zero, List.setIfInBounds_toArray, List.set_cons_zero, List.set_cons_succ])
          refine wpAnyH_ready (rs := [10]) (by kernel_rfl) (by simp) ?_
          refine AllReadyH.cons rfl (fun K1 hK1 => ?_) AllReadyH.nil
          have y0 := X24.out.cell 0 rfl 0 _ rfl
          have z0 := X24.out.frozen 0 rfl 0
          have y1 := X24.out.cell 0 rfl 1 _ rfl
          have z1 := X24.out.frozen 0 rfl 1
          have y2 := X24.out.cell 0 rfl 2 _ rfl
          have z2 := X24.out.frozen 0 rfl 2
          have y3 := X24.out.cell 0 rfl 3 _ rfl
          have z3 := X24.out.frozen 0 rfl 3
          have hset := Bx.set4 (X24.out.get 0 rfl) (.int .u64 (a0 : Nat)) (.bool a1) (.bool a2) (.int .i64 (a3 : Nat))
          have X25 : Hid (Sg w ((((w24.setCell ⟨p11, 0, none⟩ (.int .u64 (a0 : Nat))).setCell ⟨p11, 1, none⟩ (.bool a1)).setCell ⟨p11, 2, none⟩ (.bool a2)).setCell ⟨p11, 3, none⟩ (.int .i64 (a3 : Nat))) F rb M satp kind mode sum mxr [(p11, 36, #[.int .u64 (a0 : Nat), .bool a1, .bool a2, .int .i64 (a3 : Nat)]), (p12, 36, zr), (p10, 40, wc5 satp 1 mode sum mxr), (p9, 40, wc5 satp 2 mode sum mxr)]) := X24.out.set 0 rfl hset.1.1 hset.2
          clear hset
          go_simp
          refine hK1.out _ ((((w24.setCell ⟨p11, 0, none⟩ (.int .u64 (a0 : Nat))).setCell ⟨p11, 1, none⟩ (.bool a1)).setCell ⟨p11, 2, none⟩ (.bool a2)).setCell ⟨p11, 3, none⟩ (.int .i64 (a3 : Nat))) ⟨⟨X25.out.cell 3 rfl 0 _ rfl, X25.out.cell 3 rfl 1 _ rfl, X25.out.cell 3 rfl 2 _ rfl, X25.out.cell 3 rfl 3 _ rfl, X25.out.cell 3 rfl 4 _ rfl⟩, X25.out.cell 2 rfl 0 _ rfl, X25.out.cell 2 rfl 1 _ rfl, X25.out.cell 2 rfl 2 _ rfl, X25.out.cell 2 rfl 3 _ rfl, X25.out.cell 2 rfl 4 _ rfl⟩ (fun hS25 => ?_)
          clear hK1 K1 hS24 y0 z0 y1 z1 y2 z2 y3 z3
          (try simp only [Act.put, List.getElem_toArray, List.getElem_cons_succ, List.getElem_cons_zero, List.setIfInBounds_toArray, List.set_cons_zero, List.set_cons_succ])
          generalize (((w24.setCell ⟨p11, 0, none⟩ (.int .u64 (a0 : Nat))).setCell ⟨p11, 1, none⟩ (.bool a1)).setCell ⟨p11, 2, none⟩ (.bool a2)).setCell ⟨p11, 3, none⟩ (.int .i64 (a3 : Nat)) = w25 at *
          refine wpAnyH_ready (rs := [11]) (by kernel_rfl) (by simp) ?_
          refine AllReadyH.cons rfl (fun K1 hK1 => ?_) AllReadyH.nil
          have y0 := X25.out.cell 1 rfl 0 _ rfl
          have z0 := X25.out.frozen 1 rfl 0
          have y1 := X25.out.cell 1 rfl 1 _ rfl
          have z1 := X25.out.frozen 1 rfl 1
          have y2 := X25.out.cell 1 rfl 2 _ rfl
          have z2 := X25.out.frozen 1 rfl 2
          have y3 := X25.out.cell 1 rfl 3 _ rfl
          have z3 := X25.out.frozen 1 rfl 3
          have hset := Bx.set4 (X25.out.get 1 rfl) (.int .u64 (b0 : Nat)) (.bool b1) (.bool b2) (.int .i64 (b3 : Nat))
          have X26 : Hid (Sg w ((((w25.setCell ⟨p12, 0, none⟩ (.int .u64 (b0 : Nat))).setCell ⟨p12, 1, none⟩ (.bool b1)).setCell ⟨p12, 2, none⟩ (.bool b2)).setCell ⟨p12, 3, none⟩ (.int .i64 (b3 : Nat))) F rb M satp kind mode sum mxr [(p11, 36, #[.int .u64 (a0 : Nat), .bool a1, .bool a2, .int .i64 (a3 : Nat)]), (p12, 36, #[.int .u64 (b0 : Nat), .bool b1, .bool b2, .int .i64 (b3 : Nat)]), (p10, 40, wc5 satp 1 mode sum mxr), (p9, 40, wc5 satp 2 mode sum mxr)]) := X25.out.set 1 rfl hset.1.1 hset.2
          clear hset
          go_simp
          refine hK1.out _ ((((w25.setCell ⟨p12, 0, none⟩ (.int .u64 (b0 : Nat))).setCell ⟨p12, 1, none⟩ (.bool b1)).setCell ⟨p12, 2, none⟩ (.bool b2)).setCell ⟨p12, 3, none⟩ (.int .i64 (b3 : Nat))) ⟨⟨X26.out.cell 3 rfl 0 _ rfl, X26.out.cell 3 rfl 1 _ rfl, X26.out.cell 3 rfl 2 _ rfl, X26.out.cell 3 rfl 3 _ rfl, X26.out.cell 3 rfl 4 _ rfl⟩, X26.out.cell 2 rfl 0 _ rfl, X26.out.cell 2 rfl 1 _ rfl, X26.out.cell 2 rfl 2 _ rfl, X26.out.cell 2 rfl 3 _ rfl, X26.out.cell 2 rfl 4 _ rfl⟩ (fun hS26 => ?_)
          clear hK1 K1 hS25 y0 z0 y1 z1 y2 z2 y3 z3
          (try simp only [Act.put, List.getElem_toArray, List.getElem_cons_succ, List.getElem_cons_zero, List.setIfInBounds_toArray, List.set_cons_zero, List.set_cons_succ])
          generalize (((w25.setCell ⟨p12, 0, none⟩ (.int .u64 (b0 : Nat))).setCell ⟨p12, 1, none⟩ (.bool b1)).setCell ⟨p12, 2, none⟩ (.bool b2)).setCell ⟨p12, 3, none⟩ (.int .i64 (b3 : Nat)) = w26 at *
          refine wpAnyH_done (by kernel_rfl) ?_ _
          clear hS26
          go_wp2_with fail
          go_meet
          exact ⟨p11, p12, rfl, rfl, X26.out.swap⟩
    · go_simp
      have X21 : Hid (Sg w (wd.alloc (.cells zr 36)) F rb M satp kind mode sum mxr [(wd.heap.size, 36, zr), (p10, 40, wc5 satp 1 mode sum mxr), (p9, 40, wc5 satp 2 mode sum mxr)]) := Xd.out.alloc _ _
      refine hK1.out _ (wd.alloc (.cells zr 36)) ⟨⟨X21.out.cell 2 rfl 0 _ rfl, X21.out.cell 2 rfl 1 _ rfl, X21.out.cell 2 rfl 2 _ rfl, X21.out.cell 2 rfl 3 _ rfl, X21.out.cell 2 rfl 4 _ rfl⟩, X21.out.cell 1 rfl 0 _ rfl, X21.out.cell 1 rfl 1 _ rfl, X21.out.cell 1 rfl 2 _ rfl, X21.out.cell 1 rfl 3 _ rfl, X21.out.cell 1 rfl 4 _ rfl⟩ (fun hS21 => ?_)
      clear hK1 K1 hS
      (try simp only [Act.put, List.getElem_toArray, List.getElem_cons_succ, List.getElem_cons_zero, List.setIfInBounds_toArray, List.set_cons_zero, List.set_cons_succ])
      generalize wd.heap.size = p11 at *
      generalize wd.alloc (.cells zr 36) = w21 at *
      refine wpAnyH_ready (rs := [3, 9]) (by kernel_rfl) (by simp) ?_
      refine AllReadyH.cons rfl (fun K1 hK1 => ?_) (AllReadyH.cons rfl (fun K1 hK1 => ?_) AllReadyH.nil)
      · go_simp
        refine (ca _ X21.out.1.2).mono ?_
        rintro e w22 ⟨rfl, hb⟩
        have X22 : Hid (Sg w w22 F rb M satp kind mode sum mxr [(p11, 36, zr), (p10, 40, wc5 satp 1 mode sum mxr), (p9, 40, wc5 satp 2 mode sum mxr)]) := X21.out.step hb
        clear hb
        refine hK1.out _ _ ⟨⟨X22.out.cell 2 rfl 0 _ rfl, X22.out.cell 2 rfl 1 _ rfl, X22.out.cell 2 rfl 2 _ rfl, X22.out.cell 2 rfl 3 _ rfl, X22.out.cell 2 rfl 4 _ rfl⟩, X22.out.cell 1 rfl 0 _ rfl, X22.out.cell 1 rfl 1 _ rfl, X22.out.cell 1 rfl 2 _ rfl, X22.out.cell 1 rfl 3 _ rfl, X22.out.cell 1 rfl 4 _ rfl⟩ (fun hS22 => ?_)
        clear hK1 K1 hS21
        (try simp only [Act.put, List.getElem_toArray, List.getElem_cons_succ, List.getElem_cons_zero, List.setIfInBounds_toArray, List.set_cons_zero, List.set_cons_succ])
        refine wpAnyH_ready (rs := [7, 9]) (by kernel_rfl) (by simp) ?_
        refine AllReadyH.cons rfl (fun K1 hK1 => ?_) (AllReadyH.cons rfl (fun K1 hK1 => ?_) AllReadyH.nil)
        · go_simp
          refine (cb _ X22.out.1.2).mono ?_
          rintro e w23 ⟨rfl, hb⟩
          have X23 : Hid (Sg w w23 F rb M satp kind mode sum mxr [(p11, 36, zr), (p10, 40, wc5 satp 1 mode sum mxr), (p9, 40, wc5 satp 2 mode sum mxr)]) := X22.out.step hb
          clear hb
          refine hK1.out _ _ ⟨⟨X23.out.cell 2 rfl 0 _ rfl, X23.out.cell 2 rfl 1 _ rfl, X23.out.cell 2 rfl 2 _ rfl, X23.out.cell 2 rfl 3 _ rfl, X23.out.cell 2 rfl 4 _ rfl⟩, X23.out.cell 1 rfl 0 _ rfl, X23.out.cell 1 rfl 1 _ rfl, X23.out.cell 1 rfl 2 _ rfl, X23.out.cell 1 rfl 3 _ rfl, X23.out.cell 1 rfl 4 _ rfl⟩ (fun hS23 => ?_)
          clear hK1 K1 hS22
          (try simp only [Act.put, List.getElem_toArray, List.getElem_cons_succ, List.getElem_cons_zero, List.setIfInBounds_toArray, List.set_cons_zero, List.set_cons_succ])
          refine wpAnyH_ready (rs := [9]) (by kernel_rfl) (by simp) ?_
          refine AllReadyH.cons rfl (fun K1 hK1 => ?_) AllReadyH.nil
          go_simp
          have X24 : Hid (Sg w (w23.alloc (.cells zr 36)) F rb M satp kind mode sum mxr [(w23.heap.size, 36, zr), (p11, 36, zr), (p10, 40, wc5 satp 1 mode sum mxr), (p9, 40, wc5 satp 2 mode sum mxr)]) := X23.out.alloc _ _
          refine hK1.out _ (w23.alloc (.cells zr 36)) ⟨⟨X24.out.cell 3 rfl 0 _ rfl, X24.out.cell 3 rfl 1 _ rfl, X24.out.cell 3 rfl 2 _ rfl, X24.out.cell 3 rfl 3 _ rfl, X24.out.cell 3 rfl 4 _ rfl⟩, X24.out.cell 2 rfl 0 _ rfl, X24.out.cell 2 rfl 1 _ rfl, X24.out.cell 2 rfl 2 _ rfl, X24.out.cell 2 rfl 3 _ rfl, X24.out.cell 2 rfl 4 _ rfl⟩ (fun hS24 => ?_)
          clear hK1 K1 hS23
          (try simp only [Act.put, List.getElem_toArray, List.getElem_cons_succ, List.getElem_cons_zero, List.setIfInBounds_toArray, List.set_cons_zero, List.set_cons_succ])
          generalize w23.heap.size = p12 at *
          generalize w23.alloc (.cells zr 36) = w24 at *
          refine wpAnyH_ready (rs := [10]) (by kernel_rfl) (by simp) ?_
          refine AllReadyH.cons rfl (fun K1 hK1 => ?_) AllReadyH.nil
          have y0 := X24.out.cell 1 rfl 0 _ rfl
          have z0 := X24.out.frozen 1 rfl 0
          have y1 := X24.out.cell 1 rfl 1 _ rfl
          have z1 := X24.out.frozen 1 rfl 1
          have y2 := X24.out.cell 1 rfl 2 _ rfl
          have z2 := X24.out.frozen 1 rfl 2
          have y3 := X24.out.cell 1 rfl 3 _ rfl
          have z3 := X24.out.frozen 1 rfl 3
          have hset := Bx.set4 (X24.out.get 1 rfl) (.int .u64 (a0 : Nat)) (.bool a1) (.bool a2) (.int .i64 (a3 : Nat))
          have X25 : Hid (Sg w ((((w24.setCell ⟨p11, 0, none⟩ (.int .u64 (a0 : Nat))).setCell ⟨p11, 1, none⟩ (.bool a1)).setCell ⟨p11, 2, none⟩ (.bool a2)).setCell ⟨p11, 3, none⟩ (.int .i64 (a3 : Nat))) F rb M satp kind mode sum mxr [(p12, 36, zr), (p11, 36, #[.int .u64 (a0 : Nat), .bool a1, .bool a2, .int .i64 (a3 : Nat)]), (p10, 40, wc5 satp 1 mode sum mxr), (p9, 40, wc5 satp 2 mode sum mxr)]) := X24.out.set 1 rfl hset.1.1 hset.2
          clear hset
          go_simp
          refine hK1.out _ ((((w24.setCell ⟨p11, 0, none⟩ (.int .u64 (a0 : Nat))).setCell ⟨p11, 1, none⟩ (.bool a1)).setCell ⟨p11, 2, none⟩ (.bool a2)).setCell ⟨p11, 3, none⟩ (.int .i64 (a3 : Nat))) ⟨⟨X25.out.cell 3 rfl 0 _ rfl, X25.out.cell 3 rfl 1 _ rfl, X25.out.cell 3 rfl 2 _ rfl, X25.out.cell 3 rfl 3 _ rfl, X25.out.cell 3 rfl 4 _ rfl⟩, X25.out.cell 2 rfl 0 _ rfl, X25.out.cell 2 rfl 1 _ rfl, X25.out.cell 2 rfl 2 _ rfl, X25.out.cell 2 rfl 3 _ rfl, X25.out.cell 2 rfl 4 _ rfl⟩ (fun hS25 => ?_)
          clear hK1 K1 hS24 y0 z0 y1 z1 y2 z2 y3 z3
          (try simp only [Act.put, List.getElem_toArray, List.getElem_cons_succ, List.getElem_cons_zero, List.setIfInBounds_toArray, List.set_cons_zero, List.set_cons_succ])
          generalize (((w24.setCell ⟨p11, 0, none⟩ (.int .u64 (a0 : Nat))).setCell ⟨p11, 1, none⟩ (.bool a1)).setCell ⟨p11, 2, none⟩ (.bool a2)).setCell ⟨p11, 3, none⟩ (.int .i64 (a3 : Nat)) = w25 at *
          refine wpAnyH_ready (rs := [11]) (by kernel_rfl) (by simp) ?_
          refine AllReadyH.cons rfl (fun K1 hK1 => ?_) AllReadyH.nil
          have y0 := X25.out.cell 0 rfl 0 _ rfl
          have z0 := X25.out.frozen 0 rfl 0
          have y1 := X25.out.cell 0 rfl 1 _ rfl
          have z1 := X25.out.frozen 0 rfl 1
          have y2 := X25.out.cell 0 rfl 2 _ rfl
          have z2 := X25.out.frozen 0 rfl 2
          have y3 := X25.out.cell 0 rfl 3 _ rfl
          have z3 := X25.out.frozen 0 rfl 3
          have hset := Bx.set4 (X25.out.get 0 rfl) (.int .u64 (b0 : Nat)) (.bool b1) (.bool b2) (.int .i64 (b3 : Nat))
          have X26 : Hid (Sg w ((((w25.setCell ⟨p12, 0, none⟩ (.int .u64 (b0 : Nat))).setCell ⟨p12, 1, none⟩ (.bool b1)).setCell ⟨p12, 2, none⟩ (.bool b2)).setCell ⟨p12, 3, none⟩ (.int .i64 (b3 : Nat))) F rb M satp kind mode sum mxr [(p12, 36, #[.int .u64 (b0 : Nat), .bool b1, .bool b2, .int .i64 (b3 : Nat)]), (p11, 36, #[.int .u64 (a0 : Nat), .bool a1, .bool a2, .int .i64 (a3 : Nat)]), (p10, 40, wc5 satp 1 mode sum mxr), (p9, 40, wc5 satp 2 mode sum mxr)]) := X25.out.set 0 rfl hset.1.1 hset.2
          clear hset
          go_simp
          refine hK1.out _ ((((w25.setCell ⟨p12, 0, none⟩ (.int .u64 (b0 : Nat))).setCell ⟨p12, 1, none⟩ (.bool b1)).setCell ⟨p12, 2, none⟩ (.bool b2)).setCell ⟨p12, 3, none⟩ (.int .i64 (b3 : Nat))) ⟨⟨X26.out.cell 3 rfl 0 _ rfl, X26.out.cell 3 rfl 1 _ rfl, X26.out.cell 3 rfl 2 _ rfl, X26.out.cell 3 rfl 3 _ rfl, X26.out.cell 3 rfl 4 _ rfl⟩, X26.out.cell 2 rfl 0 _ rfl, X26.out.cell 2 rfl 1 _ rfl, X26.out.cell 2 rfl 2 _ rfl, X26.out.cell 2 rfl 3 _ rfl, X26.out.cell 2 rfl 4 _ rfl⟩ (fun hS26 => ?_)
          clear hK1 K1 hS25 y0 z0 y1 z1 y2 z2 y3 z3
          (try simp only [Act.put, List.getElem_toArray, List.getElem_cons_succ, List.getElem_cons_zero, List.setIfInBounds_toArray, List.set_cons_zero, List.set_cons_succ])
          generalize (((w25.setCell ⟨p12, 0, none⟩ (.int .u64 (b0 : Nat))).setCell ⟨p12, 1, none⟩ (.bool b1)).setCell ⟨p12, 2, none⟩ (.bool b2)).setCell ⟨p12, 3, none⟩ (.int .i64 (b3 : Nat)) = w26 at *
          refine wpAnyH_done (by kernel_rfl) ?_ _
          clear hS26
          go_wp2_with fail
          go_meet
          exact ⟨p11, p12, rfl, rfl, X26.out⟩
        · go_simp
          have X23 : Hid (Sg w (w22.alloc (.cells zr 36)) F rb M satp kind mode sum mxr [(w22.heap.size, 36, zr), (p11, 36, zr), (p10, 40, wc5 satp 1 mode sum mxr), (p9, 40, wc5 satp 2 mode sum mxr)]) := X22.out.alloc _ _
          refine hK1.out _ (w22.alloc (.cells zr 36)) ⟨⟨X23.out.cell 3 rfl 0 _ rfl, X23.out.cell 3 rfl 1 _ rfl, X23.out.cell 3 rfl 2 _ rfl, X23.out.cell 3 rfl 3 _ rfl, X23.out.cell 3 rfl 4 _ rfl⟩, X23.out.cell 2 rfl 0 _ rfl, X23.out.cell 2 rfl 1 _ rfl, X23.out.cell 2 rfl 2 _ rfl, X23.out.cell 2 rfl 3 _ rfl, X23.out.cell 2 rfl 4 _ rfl⟩ (fun hS23 => ?_)
          clear hK1 K1 hS22
          (try simp only [Act.put, List.getElem_toArray, List.getElem_cons_succ, List.getElem_cons_zero, List.setIfInBounds_toArray, List.set_cons_zero, List.set_cons_succ])
          generalize w22.heap.size = p12 at *
          generalize w22.alloc (.cells zr 36) = w23 at *
          refine wpAnyH_ready (rs := [7]) (by kernel_rfl) (by simp) ?_
          refine AllReadyH.cons rfl (fun K1 hK1 => ?_) AllReadyH.nil
          go_simp
          refine (cb _ X23.out.1.2).mono ?_
          rintro e w24 ⟨rfl, hb⟩
          have X24 : Hid (Sg w w24 F rb M satp kind mode sum mxr [(p12, 36, zr), (p11, 36, zr), (p10, 40, wc5 satp 1 mode sum mxr), (p9, 40, wc5 satp 2 mode sum mxr)]) := X23.out.step hb
          clear hb
          refine hK1.out _ _ ⟨⟨X24.out.cell 3 rfl 0 _ rfl, X24.out.cell 3 rfl 1 _ rfl, X24.out.cell 3 rfl 2 _ rfl, X24.out.cell 3 rfl 3 _ rfl, X24.out.cell 3 rfl 4 _ rfl⟩, X24.out.cell 2 rfl 0 _ rfl, X24.out.cell 2 rfl 1 _ rfl, X24.out.cell 2 rfl 2 _ rfl, X24.out.cell 2 rfl 3 _ rfl, X24.out.cell 2 rfl 4 _ rfl⟩ (fun hS24 => ?_)
          clear hK1 K1 hS23
          (try simp only [Act.put, List.getElem_toArray, List.getElem_cons_succ, List.getElem_cons_zero, List.setIfInBounds_toArray, List.set_cons_zero, List.set_cons_succ])
          refine wpAnyH_ready (rs := [10]) (by kernel_rfl) (by simp) ?_
          refine AllReadyH.cons rfl (fun K1 hK1 => ?_) AllReadyH.nil
          have y0 := X24.out.cell 1 rfl 0 _ rfl
          have z0 := X24.out.frozen 1 rfl 0
          have y1 := X24.out.cell 1 rfl 1 _ rfl
          have z1 := X24.out.frozen 1 rfl 1
          have y2 := X24.out.cell 1 rfl 2 _ rfl
          have z2 := X24.out.frozen 1 rfl 2
          have y3 := X24.out.cell 1 rfl 3 _ rfl
          have z3 := X24.out.frozen 1 rfl 3
          have hset := Bx.set4 (X24.out.get 1 rfl) (.int .u64 (a0 : Nat)) (.bool a1) (.bool a2) (.int .i64 (a3 : Nat))
          have X25 : Hid (Sg w ((((w24.setCell ⟨p11, 0, none⟩ (.int .u64 (a0 : Nat))).setCell ⟨p11, 1, none⟩ (.bool a1)).setCell ⟨p11, 2, none⟩ (.bool a2)).setCell ⟨p11, 3, none⟩ (.int .i64 (a3 : Nat))) F rb M satp kind mode sum mxr [(p12, 36, zr), (p11, 36, #[.int .u64 (a0 : Nat), .bool a1, .bool a2, .int .i64 (a3 : Nat)]), (p10, 40, wc5 satp 1 mode sum mxr), (p9, 40, wc5 satp 2 mode sum mxr)]) := X24.out.set 1 rfl hset.1.1 hset.2
          clear hset
          go_simp
          refine hK1.out _ ((((w24.setCell ⟨p11, 0, none⟩ (.int .u64 (a0 : Nat))).setCell ⟨p11, 1, none⟩ (.bool a1)).setCell ⟨p11, 2, none⟩ (.bool a2)).setCell ⟨p11, 3, none⟩ (.int .i64 (a3 : Nat))) ⟨⟨X25.out.cell 3 rfl 0 _ rfl, X25.out.cell 3 rfl 1 _ rfl, X25.out.cell 3 rfl 2 _ rfl, X25.out.cell 3 rfl 3 _ rfl, X25.out.cell 3 rfl 4 _ rfl⟩, X25.out.cell 2 rfl 0 _ rfl, X25.out.cell 2 rfl 1 _ rfl, X25.out.cell 2 rfl 2 _ rfl, X25.out.cell 2 rfl 3 _ rfl, X25.out.cell 2 rfl 4 _ rfl⟩ (fun hS25 => ?_)
          clear hK1 K1 hS24 y0 z0 y1 z1 y2 z2 y3 z3
          (try simp only [Act.put, List.getElem_toArray, List.getElem_cons_succ, List.getElem_cons_zero, List.setIfInBounds_toArray, List.set_cons_zero, List.set_cons_succ])
          generalize (((w24.setCell ⟨p11, 0, none⟩ (.int .u64 (a0 : Nat))).setCell ⟨p11, 1, none⟩ (.bool a1)).setCell ⟨p11, 2, none⟩ (.bool a2)).setCell ⟨p11, 3, none⟩ (.int .i64 (a3 : Nat)) = w25 at *
          refine wpAnyH_ready (rs := [11]) (by kernel_rfl) (by simp) ?_
          refine AllReadyH.cons rfl (fun K1 hK1 => ?_) AllReadyH.nil
          have y0 := X25.out.cell 0 rfl 0 _ rfl
          have z0 := X25.out.frozen 0 rfl 0
          have y1 := X25.out.cell 0 rfl 1 _ rfl
          have z1 := X25.out.frozen 0 rfl 1
          have y2 := X25.out.cell 0 rfl 2 _ rfl
          have z2 := X25.out.frozen 0 rfl 2
          have y3 := X25.out.cell 0 rfl 3 _ rfl
          have z3 := X25.out.frozen 0 rfl 3
          have hset := Bx.set4 (X25.out.get 0 rfl) (.int .u64 (b0 : Nat)) (.bool b1) (.bool b2) (.int .i64 (b3 : Nat))
          have X26 : Hid (Sg w ((((w25.setCell ⟨p12, 0, none⟩ (.int .u64 (b0 : Nat))).setCell ⟨p12, 1, none⟩ (.bool b1)).setCell ⟨p12, 2, none⟩ (.bool b2)).setCell ⟨p12, 3, none⟩ (.int .i64 (b3 : Nat))) F rb M satp kind mode sum mxr [(p12, 36, #[.int .u64 (b0 : Nat), .bool b1, .bool b2, .int .i64 (b3 : Nat)]), (p11, 36, #[.int .u64 (a0 : Nat), .bool a1, .bool a2, .int .i64 (a3 : Nat)]), (p10, 40, wc5 satp 1 mode sum mxr), (p9, 40, wc5 satp 2 mode sum mxr)]) := X25.out.set 0 rfl hset.1.1 hset.2
          clear hset
          go_simp
          refine hK1.out _ ((((w25.setCell ⟨p12, 0, none⟩ (.int .u64 (b0 : Nat))).setCell ⟨p12, 1, none⟩ (.bool b1)).setCell ⟨p12, 2, none⟩ (.bool b2)).setCell ⟨p12, 3, none⟩ (.int .i64 (b3 : Nat))) ⟨⟨X26.out.cell 3 rfl 0 _ rfl, X26.out.cell 3 rfl 1 _ rfl, X26.out.cell 3 rfl 2 _ rfl, X26.out.cell 3 rfl 3 _ rfl, X26.out.cell 3 rfl 4 _ rfl⟩, X26.out.cell 2 rfl 0 _ rfl, X26.out.cell 2 rfl 1 _ rfl, X26.out.cell 2 rfl 2 _ rfl, X26.out.cell 2 rfl 3 _ rfl, X26.out.cell 2 rfl 4 _ rfl⟩ (fun hS26 => ?_)
          clear hK1 K1 hS25 y0 z0 y1 z1 y2 z2 y3 z3
          (try simp only [Act.put, List.getElem_toArray, List.getElem_cons_succ, List.getElem_cons_zero, List.setIfInBounds_toArray, List.set_cons_zero, List.set_cons_succ])
          generalize (((w25.setCell ⟨p12, 0, none⟩ (.int .u64 (b0 : Nat))).setCell ⟨p12, 1, none⟩ (.bool b1)).setCell ⟨p12, 2, none⟩ (.bool b2)).setCell ⟨p12, 3, none⟩ (.int .i64 (b3 : Nat)) = w26 at *
          refine wpAnyH_done (by kernel_rfl) ?_ _
          clear hS26
          go_wp2_with fail
          go_meet
          exact ⟨p11, p12, rfl, rfl, X26.out⟩
      · go_simp
        have X22 : Hid (Sg w (w21.alloc (.cells zr 36)) F rb M satp kind mode sum mxr [(w21.heap.size, 36, zr), (p11, 36, zr), (p10, 40, wc5 satp 1 mode sum mxr), (p9, 40, wc5 satp 2 mode sum mxr)]) := X21.out.alloc _ _
        refine hK1.out _ (w21.alloc (.cells zr 36)) ⟨⟨X22.out.cell 3 rfl 0 _ rfl, X22.out.cell 3 rfl 1 _ rfl, X22.out.cell 3 rfl 2 _ rfl, X22.out.cell 3 rfl 3 _ rfl, X22.out.cell 3 rfl 4 _ rfl⟩, X22.out.cell 2 rfl 0 _ rfl, X22.out.cell 2 rfl 1 _ rfl, X22.out.cell 2 rfl 2 _ rfl, X22.out.cell 2 rfl 3 _ rfl, X22.out.cell 2 rfl 4 _ rfl⟩ (fun hS22 => ?_)
        clear hK1 K1 hS21
        (try simp only [Act.put, List.getElem_toArray, List.getElem_cons_succ, List.getElem_cons_zero, List.setIfInBounds_toArray, List.set_cons_zero, List.set_cons_succ])
        generalize w21.heap.size = p12 at *
        generalize w21.alloc (.cells zr 36) = w22 at *
        refine wpAnyH_ready (rs := [3]) (by kernel_rfl) (by simp) ?_
        refine AllReadyH.cons rfl (fun K1 hK1 => ?_) AllReadyH.nil
        go_simp
        refine (ca _ X22.out.1.2).mono ?_
        rintro e w23 ⟨rfl, hb⟩
        have X23 : Hid (Sg w w23 F rb M satp kind mode sum mxr [(p12, 36, zr), (p11, 36, zr), (p10, 40, wc5 satp 1 mode sum mxr), (p9, 40, wc5 satp 2 mode sum mxr)]) := X22.out.step hb
        clear hb
        refine hK1.out _ _ ⟨⟨X23.out.cell 3 rfl 0 _ rfl, X23.out.cell 3 rfl 1 _ rfl, X23.out.cell 3 rfl 2 _ rfl, X23.out.cell 3 rfl 3 _ rfl, X23.out.cell 3 rfl 4 _ rfl⟩, X23.out.cell 2 rfl 0 _ rfl, X23.out.cell 2 rfl 1 _ rfl, X23.out.cell 2 rfl 2 _ rfl, X23.out.cell 2 rfl 3 _ rfl, X23.out.cell 2 rfl 4 _ rfl⟩ (fun hS23 => ?_)
        clear hK1 K1 hS22
        (try simp only [Act.put, List.getElem_toArray, List.getElem_cons_succ, List.getElem_cons_zero, List.setIfInBounds_toArray, List.set_cons_zero, List.set_cons_succ])
        refine wpAnyH_ready (rs := [7]) (by kernel_rfl) (by simp) ?_
        refine AllReadyH.cons rfl (fun K1 hK1 => ?_) AllReadyH.nil
        go_simp
        refine (cb _ X23.out.1.2).mono ?_
        rintro e w24 ⟨rfl, hb⟩
        have X24 : Hid (Sg w w24 F rb M satp kind mode sum mxr [(p12, 36, zr), (p11, 36, zr), (p10, 40, wc5 satp 1 mode sum mxr), (p9, 40, wc5 satp 2 mode sum mxr)]) := X23.out.step hb
        clear hb
        refine hK1.out _ _ ⟨⟨X24.out.cell 3 rfl 0 _ rfl, X24.out.cell 3 rfl 1 _ rfl, X24.out.cell 3 rfl 2 _ rfl, X24.out.cell 3 rfl 3 _ rfl, X24.out.cell 3 rfl 4 _ rfl⟩, X24.out.cell 2 rfl 0 _ rfl, X24.out.cell 2 rfl 1 _ rfl, X24.out.cell 2 rfl 2 _ rfl, X24.out.cell 2 rfl 3 _ rfl, X24.out.cell 2 rfl 4 _ rfl⟩ (fun hS24 => ?_)
        clear hK1 K1 hS23
        (try simp only [Act.put, List.getElem_toArray, List.getElem_cons_succ, List.getElem_cons_zero, List.setIfInBounds_toArray, List.set_cons_zero, List.set_cons_succ])
        refine wpAnyH_ready (rs := [10]) (by kernel_rfl) (by simp) ?_
        refine AllReadyH.cons rfl (fun K1 hK1 => ?_) AllReadyH.nil
        have y0 := X24.out.cell 1 rfl 0 _ rfl
        have z0 := X24.out.frozen 1 rfl 0
        have y1 := X24.out.cell 1 rfl 1 _ rfl
        have z1 := X24.out.frozen 1 rfl 1
        have y2 := X24.out.cell 1 rfl 2 _ rfl
        have z2 := X24.out.frozen 1 rfl 2
        have y3 := X24.out.cell 1 rfl 3 _ rfl
        have z3 := X24.out.frozen 1 rfl 3
        have hset := Bx.set4 (X24.out.get 1 rfl) (.int .u64 (a0 : Nat)) (.bool a1) (.bool a2) (.int .i64 (a3 : Nat))
        have X25 : Hid (Sg w ((((w24.setCell ⟨p11, 0, none⟩ (.int .u64 (a0 : Nat))).setCell ⟨p11, 1, none⟩ (.bool a1)).setCell ⟨p11, 2, none⟩ (.bool a2)).setCell ⟨p11, 3, none⟩ (.int .i64 (a3 : Nat))) F rb M satp kind mode sum mxr [(p12, 36, zr), (p11, 36, #[.int .u64 (a0 : Nat), .bool a1, .bool a2, .int .i64 (a3 : Nat)]), (p10, 40, wc5 satp 1 mode sum mxr), (p9, 40, wc5 satp 2 mode sum mxr)]) := X24.out.set 1 rfl hset.1.1 hset.2
        clear hset
        go_simp
        refine hK1.out _ ((((w24.setCell ⟨p11, 0, none⟩ (.int .u64 (a0 : Nat))).setCell ⟨p11, 1, none⟩ (.bool a1)).setCell ⟨p11, 2, none⟩ (.bool a2)).setCell ⟨p11, 3, none⟩ (.int .i64 (a3 : Nat))) ⟨⟨X25.out.cell 3 rfl 0 _ rfl, X25.out.cell 3 rfl 1 _ rfl, X25.out.cell 3 rfl 2 _ rfl, X25.out.cell 3 rfl 3 _ rfl, X25.out.cell 3 rfl 4 _ rfl⟩, X25.out.cell 2 rfl 0 _ rfl, X25.out.cell 2 rfl 1 _ rfl, X25.out.cell 2 rfl 2 _ rfl, X25.out.cell 2 rfl 3 _ rfl, X25.out.cell 2 rfl 4 _ rfl⟩ (fun hS25 => ?_)
        clear hK1 K1 hS24 y0 z0 y1 z1 y2 z2 y3 z3
        (try simp only [Act.put, List.getElem_toArray, List.getElem_cons_succ, List.getElem_cons_zero, List.setIfInBounds_toArray, List.set_cons_zero, List.set_cons_succ])
        generalize (((w24.setCell ⟨p11, 0, none⟩ (.int .u64 (a0 : Nat))).setCell ⟨p11, 1, none⟩ (.bool a1)).setCell ⟨p11, 2, none⟩ (.bool a2)).setCell ⟨p11, 3, none⟩ (.int .i64 (a3 : Nat)) = w25 at *
        refine wpAnyH_ready (rs := [11]) (by kernel_rfl) (by simp) ?_
        refine AllReadyH.cons rfl (fun K1 hK1 => ?_) AllReadyH.nil
        have y0 := X25.out.cell 0 rfl 0 _ rfl
        have z0 := X25.out.frozen 0 rfl 0
        have y1 := X25.out.cell 0 rfl 1 _ rfl
        have z1 := X25.out.frozen 0 rfl 1
        have y2 := X25.out.cell 0 rfl 2 _ rfl
        have z2 := X25.out.frozen 0 rfl 2
        have y3 := X25.out.cell 0 rfl 3 _ rfl
        have z3 := X25.out.frozen 0 rfl 3
        have hset := Bx.set4 (X25.out.get 0 rfl) (.int .u64 (b0 : Nat)) (.bool b1) (.bool b2) (.int .i64 (b3 : Nat))
        have X26 : Hid (Sg w ((((w25.setCell ⟨p12, 0, none⟩ (.int .u64 (b0 : Nat))).setCell ⟨p12, 1, none⟩ (.bool b1)).setCell ⟨p12, 2, none⟩ (.bool b2)).setCell ⟨p12, 3, none⟩ (.int .i64 (b3 : Nat))) F rb M satp kind mode sum mxr [(p12, 36, #[.int .u64 (b0 : Nat), .bool b1, .bool b2, .int .i64 (b3 : Nat)]), (p11, 36, #[.int .u64 (a0 : Nat), .bool a1, .bool a2, .int .i64 (a3 : Nat)]), (p10, 40, wc5 satp 1 mode sum mxr), (p9, 40, wc5 satp 2 mode sum mxr)]) := X25.out.set 0 rfl hset.1.1 hset.2
        clear hset
        go_simp
        refine hK1.out _ ((((w25.setCell ⟨p12, 0, none⟩ (.int .u64 (b0 : Nat))).setCell ⟨p12, 1, none⟩ (.bool b1)).setCell ⟨p12, 2, none⟩ (.bool b2)).setCell ⟨p12, 3, none⟩ (.int .i64 (b3 : Nat))) ⟨⟨X26.out.cell 3 rfl 0 _ rfl, X26.out.cell 3 rfl 1 _ rfl, X26.out.cell 3 rfl 2 _ rfl, X26.out.cell 3 rfl 3 _ rfl, X26.out.cell 3 rfl 4 _ rfl⟩, X26.out.cell 2 rfl 0 _ rfl, X26.out.cell 2 rfl 1 _ rfl, X26.out.cell 2 rfl 2 _ rfl, X26.out.cell 2 rfl 3 _ rfl, X26.out.cell 2 rfl 4 _ rfl⟩ (fun hS26 => ?_)
        clear hK1 K1 hS25 y0 z0 y1 z1 y2 z2 y3 z3
        (try simp only [Act.put, List.getElem_toArray, List.getElem_cons_succ, List.getElem_cons_zero, List.setIfInBounds_toArray, List.set_cons_zero, List.set_cons_succ])
        generalize (((w25.setCell ⟨p12, 0, none⟩ (.int .u64 (b0 : Nat))).setCell ⟨p12, 1, none⟩ (.bool b1)).setCell ⟨p12, 2, none⟩ (.bool b2)).setCell ⟨p12, 3, none⟩ (.int .i64 (b3 : Nat)) = w26 at *
        refine wpAnyH_done (by kernel_rfl) ?_ _
        clear hS26
        go_wp2_with fail
        go_meet
        exact ⟨p11, p12, rfl, rfl, X26.out⟩
    · go_simp
      have X21 : Hid (Sg w (wd.alloc (.cells zr 36)) F rb M satp kind mode sum mxr [(wd.heap.size, 36, zr), (p10, 40, wc5 satp 1 mode sum mxr), (p9, 40, wc5 satp 2 mode sum mxr)]) := Xd.out.alloc _ _
      refine hK1.out _ (wd.alloc (.cells zr 36)) ⟨⟨X21.out.cell 2 rfl 0 _ rfl, X21.out.cell 2 rfl 1 _ rfl, X21.out.cell 2 rfl 2 _ rfl, X21.out.cell 2 rfl 3 _ rfl, X21.out.cell 2 rfl 4 _ rfl⟩, X21.out.cell 1 rfl 0 _ rfl, X21.out.cell 1 rfl 1 _ rfl, X21.out.cell 1 rfl 2 _ rfl, X21.out.cell 1 rfl 3 _ rfl, X21.out.cell 1 rfl 4 _ rfl⟩ (fun hS21 => ?_)
      clear hK1 K1 hS
      (try simp only [Act.put, List.getElem_toArray, List.getElem_cons_succ, List.getElem_cons_zero, List.setIfInBounds_toArray, List.set_cons_zero, List.set_cons_succ])
      generalize wd.heap.size = p12 at *
      generalize wd.alloc (.cells zr 36) = w21 at *
      refine wpAnyH_ready (rs := [3, 8]) (by kernel_rfl) (by simp) ?_
      refine AllReadyH.cons rfl (fun K1 hK1 => ?_) (AllReadyH.cons rfl (fun K1 hK1 => ?_) AllReadyH.nil)
      · go_simp
        refine (ca _ X21.out.1.2).mono ?_
        rintro e w22 ⟨rfl, hb⟩
        have X22 : Hid (Sg w w22 F rb M satp kind mode sum mxr [(p12, 36, zr), (p10, 40, wc5 satp 1 mode sum mxr), (p9, 40, wc5 satp 2 mode sum mxr)]) := X21.out.step hb
        clear hb
        refine hK1.out _ _ ⟨⟨X22.out.cell 2 rfl 0 _ rfl, X22.out.cell 2 rfl 1 _ rfl, X22.out.cell 2 rfl 2 _ rfl, X22.out.cell 2 rfl 3 _ rfl, X22.out.cell 2 rfl 4 _ rfl⟩, X22.out.cell 1 rfl 0 _ rfl, X22.out.cell 1 rfl 1 _ rfl, X22.out.cell 1 rfl 2 _ rfl, X22.out.cell 1 rfl 3 _ rfl, X22.out.cell 1 rfl 4 _ rfl⟩ (fun hS22 => ?_)
        clear hK1 K1 hS21
        (try simp only [Act.put, List.getElem_toArray, List.getElem_cons_succ, List.getElem_cons_zero, List.setIfInBounds_toArray, List.set_cons_zero, List.set_cons_succ])
        refine wpAnyH_ready (rs := [7, 8]) (by kernel_rfl) (by simp) ?_
        refine AllReadyH.cons rfl (fun K1 hK1 => ?_) (AllReadyH.cons rfl (fun K1 hK1 => ?_) AllReadyH.nil)
        · go_simp
          refine (cb _ X22.out.1.2).mono ?_
          rintro e w23 ⟨rfl, hb⟩
          have X23 : Hid (Sg w w23 F rb M satp kind mode sum mxr [(p12, 36, zr), (p10, 40, wc5 satp 1 mode sum mxr), (p9, 40, wc5 satp 2 mode sum mxr)]) := X22.out.step hb
          clear hb
          refine hK1.out _ _ ⟨⟨X23.out.cell 2 rfl 0 _ rfl, X23.out.cell 2 rfl 1 _ rfl, X23.out.cell 2 rfl 2 _ rfl, X23.out.cell 2 rfl 3 _ rfl, X23.out.cell 2 rfl 4 _ rfl⟩, X23.out.cell 1 rfl 0 _ rfl, X23.out.cell 1 rfl 1 _ rfl, X23.out.cell 1 rfl 2 _ rfl, X23.out.cell 1 rfl 3 _ rfl, X23.out.cell 1 rfl 4 _ rfl⟩ (fun hS23 => ?_)
          clear hK1 K1 hS22
          (try simp only [Act.put, List.getElem_toArray, List.getElem_cons_succ, List.getElem_cons_zero, List.setIfInBounds_toArray, List.set_cons_zero, List.set_cons_succ])
          refine wpAnyH_ready (rs := [8]) (by kernel_rfl) (by simp) ?_
          refine AllReadyH.cons rfl (fun K1 hK1 => ?_) AllReadyH.nil
          go_simp
          have X24 : Hid (Sg w (w23.alloc (.cells zr 36)) F rb M satp kind mode sum mxr [(w23.heap.size, 36, zr), (p12, 36, zr), (p10, 40, wc5 satp 1 mode sum mxr), (p9, 40, wc5 satp 2 mode sum mxr)]) := X23.out.alloc _ _
          refine hK1.out _ (w23.alloc (.cells zr 36)) ⟨⟨X24.out.cell 3 rfl 0 _ rfl, X24.out.cell 3 rfl 1 _ rfl, X24.out.cell 3 rfl 2 _ rfl, X24.out.cell 3 rfl 3 _ rfl, X24.out.cell 3 rfl 4 _ rfl⟩, X24.out.cell 2 rfl 0 _ rfl, X24.out.cell 2 rfl 1 _ rfl, X24.out.cell 2 rfl 2 _ rfl, X24.out.cell 2 rfl 3 _ rfl, X24.out.cell 2 rfl 4 _ rfl⟩ (fun hS24 => ?_)
          clear hK1 K1 hS23
          (try simp only [Act.put, List.getElem_toArray, List.getElem_cons_succ, List.getElem_cons_zero, List.setIfInBounds_toArray, List.set_cons_zero, List.set_cons_succ])
          generalize w23.heap.size = p11 at *
          generalize w23.alloc (.cells zr 36) = w24 at *
          refine wpAnyH_ready (rs := [10]) (by kernel_rfl) (by simp) ?_
          refine AllReadyH.cons rfl (fun K1 hK1 => ?_) AllReadyH.nil
          have y0 := X24.out.cell 0 rfl 0 _ rfl
          have z0 := X24.out.frozen 0 rfl 0
          have y1 := X24.out.cell 0 rfl 1 _ rfl
          have z1 := X24.out.frozen 0 rfl 1
          have y2 := X24.out.cell 0 rfl 2 _ rfl
          have z2 := X24.out.frozen 0 rfl 2
          have y3 := X24.out.cell 0 rfl 3 _ rfl
          have z3 := X24.out.frozen 0 rfl 3
          have hset := Bx.set4 (X24.out.get 0 rfl) (.int .u64 (a0 : Nat)) (.bool a1) (.bool a2) (.int .i64 (a3 : Nat))
          have X25 : Hid (Sg w ((((w24.setCell ⟨p11, 0, none⟩ (.int .u64 (a0 : Nat))).setCell ⟨p11, 1, none⟩ (.bool a1)).setCell ⟨p11, 2, none⟩ (.bool a2)).setCell ⟨p11, 3, none⟩ (.int .i64 (a3 : Nat))) F rb M satp kind mode sum mxr [(p11, 36, #[.int .u64 (a0 : Nat), .bool a1, .bool a2, .int .i64 (a3 : Nat)]), (p12, 36, zr), (p10, 40, wc5 satp 1 mode sum mxr), (p9, 40, wc5 satp 2 mode sum mxr)]) := X24.out.set 0 rfl hset.1.1 hset.2
          clear hset
          go_simp
          refine hK1.out _ ((((w24.setCell ⟨p11, 0, none⟩ (.int .u64 (a0 : Nat))).setCell ⟨p11, 1, none⟩ (.bool a1)).setCell ⟨p11, 2, none⟩ (.bool a2)).setCell ⟨p11, 3, none⟩ (.int .i64 (a3 : Nat))) ⟨⟨X25.out.cell 3 rfl 0 _ rfl, X25.out.cell 3 rfl 1 _ rfl, X25.out.cell 3 rfl 2 _ rfl, X25.out.cell 3 rfl 3 _ rfl, X25.out.cell 3 rfl 4 _ rfl⟩, X25.out.cell 2 rfl 0 _ rfl, X25.out.cell 2 rfl 1 _ rfl, X25.out.cell 2 rfl 2 _ rfl, X25.out.cell 2 rfl 3 _ rfl, X25.out.cell 2 rfl 4 _ rfl⟩ (fun hS25 => ?_)
          clear hK1 K1 hS24 y0 z0 y1 z1 y2 z2 y3 z3
          (try simp only [Act.put, List.getElem_toArray, List.getElem_cons_succ, List.getElem_cons_zero, List.setIfInBounds_toArray, List.set_cons_zero, List.set_cons_succ])
          generalize (((w24.setCell ⟨p11, 0, none⟩ (.int .u64 (a0 : Nat))).setCell ⟨p11, 1, none⟩ (.bool a1)).setCell ⟨p11, 2, none⟩ (.bool a2)).setCell ⟨p11, 3, none⟩ (.int .i64 (a3 : Nat)) = w25 at *
          refine wpAnyH_ready (rs := [11]) (by kernel_rfl) (by simp) ?_
          refine AllReadyH.cons rfl (fun K1 hK1 => ?_) AllReadyH.nil
          have y0 := X25.out.cell 1 rfl 0 _ rfl
          have z0 := X25.out.frozen 1 rfl 0
          have y1 := X25.out.cell 1 rfl 1 _ rfl
          have z1 := X25.out.frozen 1 rfl 1
          have y2 := X25.out.cell 1 rfl 2 _ rfl
          have z2 := X25.out.frozen 1 rfl 2
          have y3 := X25.out.cell 1 rfl 3 _ rfl
          have z3 := X25.out.frozen 1 rfl 3
          have hset := Bx.set4 (X25.out.get 1 rfl) (.int .u64 (b0 : Nat)) (.bool b1) (.bool b2) (.int .i64 (b3 : Nat))
          have X26 : Hid (Sg w ((((w25.setCell ⟨p12, 0, none⟩ (.int .u64 (b0 : Nat))).setCell ⟨p12, 1, none⟩ (.bool b1)).setCell ⟨p12, 2, none⟩ (.bool b2)).setCell ⟨p12, 3, none⟩ (.int .i64 (b3 : Nat))) F rb M satp kind mode sum mxr [(p11, 36, #[.int .u64 (a0 : Nat), .bool a1, .bool a2, .int .i64 (a3 : Nat)]), (p12, 36, #[.int .u64 (b0 : Nat), .bool b1, .bool b2, .int .i64 (b3 : Nat)]), (p10, 40, wc5 satp 1 mode sum mxr), (p9, 40, wc5 satp 2 mode sum mxr)]) := X25.out.set 1 rfl hset.1.1 hset.2
          clear hset
          go_simp
          refine hK1.out _ ((((w25.setCell ⟨p12, 0, none⟩ (.int .u64 (b0 : Nat))).setCell ⟨p12, 1, none⟩ (.bool b1)).setCell ⟨p12, 2, none⟩ (.bool b2)).setCell ⟨p12, 3, none⟩ (.int .i64 (b3 : Nat))) ⟨⟨X26.out.cell 3 rfl 0 _ rfl, X26.out.cell 3 rfl 1 _ rfl, X26.out.cell 3 rfl 2 _ rfl, X26.out.cell 3 rfl 3 _ rfl, X26.out.cell 3 rfl 4 _ rfl⟩, X26.out.cell 2 rfl 0 _ rfl, X26.out.cell 2 rfl 1 _ rfl, X26.out.cell 2 rfl 2 _ rfl, X26.out.cell 2 rfl 3 _ rfl, X26.out.cell 2 rfl 4 _ rfl⟩ (fun hS26 => ?_)
          clear hK1 K1 hS25 y0 z0 y1 z1 y2 z2 y3 z3
          (try simp only [Act.put, List.getElem_toArray, List.getElem_cons_succ, List.getElem_cons_zero, List.setIfInBounds_toArray, List.set_cons_zero, List.set_cons_succ])
          generalize (((w25.setCell ⟨p12, 0, none⟩ (.int .u64 (b0 : Nat))).setCell ⟨p12, 1, none⟩ (.bool b1)).setCell ⟨p12, 2, none⟩ (.bool b2)).setCell ⟨p12, 3, none⟩ (.int .i64 (b3 : Nat)) = w26 at *
          refine wpAnyH_done (by kernel_rfl) ?_ _
          clear hS26
          go_wp2_with fail
          go_meet
          exact ⟨p11, p12, rfl, rfl, X26.out.swap⟩
        · go_simp
          have X23 : Hid (Sg w (w22.alloc (.cells zr 36)) F rb M satp kind mode sum mxr [(w22.heap.size, 36, zr), (p12, 36, zr), (p10, 40, wc5 satp 1 mode sum mxr), (p9, 40, wc5 satp 2 mode sum mxr)]) := X22.out.alloc _ _
          refine hK1.out _ (w22.alloc (.cells zr 36)) ⟨⟨X23.out.cell 3 rfl 0 _ rfl, X23.out.cell 3 rfl 1 _ rfl, X23.out.cell 3 rfl 2 _ rfl, X23.out.cell 3 rfl 3 _ rfl, X23.out.cell 3 rfl 4 _ rfl⟩, X23.out.cell 2 rfl 0 _ rfl, X23.out.cell 2 rfl 1 _ rfl, X23.out.cell 2 rfl 2 _ rfl, X23.out.cell 2 rfl 3 _ rfl, X23.out.cell 2 rfl 4 _ rfl⟩ (fun hS23 => ?_)
          clear hK1 K1 hS22
          (try simp only [Act.put, List.getElem_toArray, List.getElem_cons_succ, List.getElem_cons_zero, List.setIfInBounds_toArray, List.set_cons_zero, List.set_cons_succ])
          generalize w22.heap.size = p11 at *
          generalize w22.alloc (.cells zr 36) = w23 at *
          refine wpAnyH_ready (rs := [7]) (by kernel_rfl) (by simp) ?_
          refine AllReadyH.cons rfl (fun K1 hK1 => ?_) AllReadyH.nil
          go_simp
          refine (cb _ X23.out.1.2).mono ?_
          rintro e w24 ⟨rfl, hb⟩
          have X24 : Hid (Sg w w24 F rb M satp kind mode sum mxr [(p11, 36, zr), (p12, 36, zr), (p10, 40, wc5 satp 1 mode sum mxr), (p9, 40, wc5 satp 2 mode sum mxr)]) := X23.out.step hb
          clear hb
          refine hK1.out _ _ ⟨⟨X24.out.cell 3 rfl 0 _ rfl, X24.out.cell 3 rfl 1 _ rfl, X24.out.cell 3 rfl 2 _ rfl, X24.out.cell 3 rfl 3 _ rfl, X24.out.cell 3 rfl 4 _ rfl⟩, X24.out.cell 2 rfl 0 _ rfl, X24.out.cell 2 rfl 1 _ rfl, X24.out.cell 2 rfl 2 _ rfl, X24.out.cell 2 rfl 3 _ rfl, X24.out.cell 2 rfl 4 _ rfl⟩ (fun hS24 => ?_)
          clear hK1 K1 hS23
          (try simp only [Act.put, List.getElem_toArray, List.getElem_cons_succ, List.getElem_cons_zero, List.setIfInBounds_toArray, List.set_cons_zero, List.set_cons_succ])
          refine wpAnyH_ready (rs := [10]) (by kernel_rfl) (by simp) ?_
          refine AllReadyH.cons rfl (fun K1 hK1 => ?_) AllReadyH.nil
          have y0 := X24.out.cell 0 rfl 0 _ rfl
          have z0 := X24.out.frozen 0 rfl 0
          have y1 := X24.out.cell 0 rfl 1 _ rfl
          have z1 := X24.out.frozen 0 rfl 1
          have y2 := X24.out.cell 0 rfl 2 _ rfl
          have z2 := X24.out.frozen 0 rfl 2
          have y3 := X24.out.cell 0 rfl 3 _ rfl
          have z3 := X24.out.frozen 0 rfl 3
          have hset := Bx.set4 (X24.out.get 0 rfl) (.int .u64 (a0 : Nat)) (.bool a1) (.bool a2) (.int .i64 (a3 : Nat))
          have X25 : Hid (Sg w ((((w24.setCell ⟨p11, 0, none⟩ (.int .u64 (a0 : Nat))).setCell ⟨p11, 1, none⟩ (.bool a1)).setCell ⟨p11, 2, none⟩ (.bool a2)).setCell ⟨p11, 3, none⟩ (.int .i64 (a3 : Nat))) F rb M satp kind mode sum mxr [(p11, 36, #[.int .u64 (a0 : Nat), .bool a1, .bool a2, .int .i64 (a3 : Nat)]), (p12, 36, zr), (p10, 40, wc5 satp 1 mode sum mxr), (p9, 40, wc5 satp 2 mode sum mxr)]) := X24.out.set 0 rfl hset.1.1 hset.2
          clear hset
          go_simp
          refine hK1.out _ ((((w24.setCell ⟨p11, 0, none⟩ (.int .u64 (a0 : Nat))).setCell ⟨p11, 1, none⟩ (.bool a1)).setCell ⟨p11, 2, none⟩ (.bool a2)).setCell ⟨p11, 3, none⟩ (.int .i64 (a3 : Nat))) ⟨⟨X25.out.cell 3 rfl 0 _ rfl, X25.out.cell 3 rfl 1 _ rfl, X25.out.cell 3 rfl 2 _ rfl, X25.out.cell 3 rfl 3 _ rfl, X25.out.cell 3 rfl 4 _ rfl⟩, X25.out.cell 2 rfl 0 _ rfl, X25.out.cell 2 rfl 1 _ rfl, X25.out.cell 2 rfl 2 _ rfl, X25.out.cell 2 rfl 3 _ rfl, X25.out.cell 2 rfl 4 _ rfl⟩ (fun hS25 => ?_)
          clear hK1 K1 hS24 y0 z0 y1 z1 y2 z2 y3 z3
          (try simp only [Act.put, List.getElem_toArray, List.getElem_cons_succ, List.getElem_cons_zero, List.setIfInBounds_toArray, List.set_cons_zero, List.set_cons_succ])
          generalize (((w24.setCell ⟨p11, 0, none⟩ (.int .u64 (a0 : Nat))).setCell ⟨p11, 1, none⟩ (.bool a1)).setCell ⟨p11, 2, none⟩ (.bool a2)).setCell ⟨p11, 3, none⟩ (.int .i64 (a3 : Nat)) = w25 at *
          refine wpAnyH_ready (rs := [11]) (by kernel_rfl) (by simp) ?_
          refine AllReadyH.cons rfl (fun K1 hK1 => ?_) AllReadyH.nil
          have y0 := X25.out.cell 1 rfl 0 _ rfl
          have z0 := X25.out.frozen 1 rfl 0
          have y1 := X25.out.cell 1 rfl 1 _ rfl
          have z1 := X25.out.frozen 1 rfl 1
          have y2 := X25.out.cell 1 rfl 2 _ rfl
          have z2 := X25.out.frozen 1 rfl 2
          have y3 := X25.out.cell 1 rfl 3 _ rfl
          have z3 := X25.out.frozen 1 rfl 3
          have hset := Bx.set4 (X25.out.get 1 rfl) (.int .u64 (b0 : Nat)) (.bool b1) (.bool b2) (.int .i64 (b3 : Nat))
          have X26 : Hid (Sg w ((((w25.setCell ⟨p12, 0, none⟩ (.int .u64 (b0 : Nat))).setCell ⟨p12, 1, none⟩ (.bool b1)).setCell ⟨p12, 2, none⟩ (.bool b2)).setCell ⟨p12, 3, none⟩ (.int .i64 (b3 : Nat))) F rb M satp kind mode sum mxr [(p11, 36, #[.int .u64 (a0 : Nat), .bool a1, .bool a2, .int .i64 (a3 : Nat)]), (p12, 36, #[.int .u64 (b0 : Nat), .bool b1, .bool b2, .int .i64 (b3 : Nat)]), (p10, 40, wc5 satp 1 mode sum mxr), (p9, 40, wc5 satp 2 mode sum mxr)]) := X25.out.set 1 rfl hset.1.1 hset.2
          clear hset
          go_simp
          refine hK1.out _ ((((w25.setCell ⟨p12, 0, none⟩ (.int .u64 (b0 : Nat))).setCell ⟨p12, 1, none⟩ (.bool b1)).setCell ⟨p12, 2, none⟩ (.bool b2)).setCell ⟨p12, 3, none⟩ (.int .i64 (b3 : Nat))) ⟨⟨X26.out.cell 3 rfl 0 _ rfl, X26.out.cell 3 rfl 1 _ rfl, X26.out.cell 3 rfl 2 _ rfl, X26.out.cell 3 rfl 3 _ rfl, X26.out.cell 3 rfl 4 _ rfl⟩, X26.out.cell 2 rfl 0 _ rfl, X26.out.cell 2 rfl 1 _ rfl, X26.out.cell 2 rfl 2 _ rfl, X26.out.cell 2 rfl 3 _ rfl, X26.out.cell 2 rfl 4 _ rfl⟩ (fun hS26 => ?_)
          clear hK1 K1 hS25 y0 z0 y1 z1 y2 z2 y3 z3
          (try simp only [Act.put, List.getElem_toArray, List.getElem_cons_succ, List.getElem_cons_zero, List.setIfInBounds_toArray, List.set_cons_zero, List.set_cons_succ])
          generalize (((w25.setCell ⟨p12, 0, none⟩ (.int .u64 (b0 : Nat))).setCell ⟨p12, 1, none⟩ (.bool b1)).setCell ⟨p12, 2, none⟩ (.bool b2)).setCell ⟨p12, 3, none⟩ (.int .i64 (b3 : Nat)) = w26 at *
          refine wpAnyH_done (by kernel_rfl) ?_ _
          clear hS26
          go_wp2_with fail
          go_meet
          exact ⟨p11, p12, rfl, rfl, X26.out.swap⟩
      · go_simp
        have X22 : Hid (Sg w (w21.alloc (.cells zr 36)) F rb M satp kind mode sum mxr [(w21.heap.size, 36, zr), (p12, 36, zr), (p10, 40, wc5 satp 1 mode sum mxr), (p9, 40, wc5 satp 2 mode sum mxr)]) := X21.out.alloc _ _
        refine hK1.out _ (w21.alloc (.cells zr 36)) ⟨⟨X22.out.cell 3 rfl 0 _ rfl, X22.out.cell 3 rfl 1 _ rfl, X22.out.cell 3 rfl 2 _ rfl, X22.out.cell 3 rfl 3 _ rfl, X22.out.cell 3 rfl 4 _ rfl⟩, X22.out.cell 2 rfl 0 _ rfl, X22.out.cell 2 rfl 1 _ rfl, X22.out.cell 2 rfl 2 _ rfl, X22.out.cell 2 rfl 3 _ rfl, X22.out.cell 2 rfl 4 _ rfl⟩ (fun hS22 => ?_)
        clear hK1 K1 hS21
        (try simp only [Act.put, List.getElem_toArray, List.getElem_cons_succ, List.getElem_cons_zero, List.setIfInBounds_toArray, List.set_cons_zero, List.set_cons_succ])
        generalize w21.heap.size = p11 at *
        generalize w21.alloc (.cells zr 36) = w22 at *
        refine wpAnyH_ready (rs := [3]) (by kernel_rfl) (by simp) ?_
        refine AllReadyH.cons rfl (fun K1 hK1 => ?_) AllReadyH.nil
        go_simp
        refine (ca _ X22.out.1.2).mono ?_
        rintro e w23 ⟨rfl, hb⟩
        have X23 : Hid (Sg w w23 F rb M satp kind mode sum mxr [(p11, 36, zr), (p12, 36, zr), (p10, 40, wc5 satp 1 mode sum mxr), (p9, 40, wc5 satp 2 mode sum mxr)]) := X22.out.step hb
        clear hb
        refine hK1.out _ _ ⟨⟨X23.out.cell 3 rfl 0 _ rfl, X23.out.cell 3 rfl 1 _ rfl, X23.out.cell 3 rfl 2 _ rfl, X23.out.cell 3 rfl 3 _ rfl, X23.out.cell 3 rfl 4 _ rfl⟩, X23.out.cell 2 rfl 0 _ rfl, X23.out.cell 2 rfl 1 _ rfl, X23.out.cell 2 rfl 2 _ rfl, X23.out.cell 2 rfl 3 _ rfl, X23.out.cell 2 rfl 4 _ rfl⟩ (fun hS23 => ?_)
        clear hK1 K1 hS22
        (try simp only [Act.put, List.getElem_toArray, List.getElem_cons_succ, List.getElem_cons_zero, List.setIfInBounds_toArray, List.set_cons_zero, List.set_cons_succ])
        refine wpAnyH_ready (rs := [7]) (by kernel_rfl) (by simp) ?_
        refine AllReadyH.cons rfl (fun K1 hK1 => ?_) AllReadyH.nil
        go_simp
        refine (cb _ X23.out.1.2).mono ?_
        rintro e w24 ⟨rfl, hb⟩
        have X24 : Hid (Sg w w24 F rb M satp kind mode sum mxr [(p11, 36, zr), (p12, 36, zr), (p10, 40, wc5 satp 1 mode sum mxr), (p9, 40, wc5 satp 2 mode sum mxr)]) := X23.out.step hb
        clear hb
        refine hK1.out _ _ ⟨⟨X24.out.cell 3 rfl 0 _ rfl, X24.out.cell 3 rfl 1 _ rfl, X24.out.cell 3 rfl 2 _ rfl, X24.out.cell 3 rfl 3 _ rfl, X24.out.cell 3 rfl 4 _ rfl⟩, X24.out.cell 2 rfl 0 _ rfl, X24.out.cell 2 rfl 1 _ rfl, X24.out.cell 2 rfl 2 _ rfl, X24.out.cell 2 rfl 3 _ rfl, X24.out.cell 2 rfl 4 _ rfl⟩ (fun hS24 => ?_)
        clear hK1 K1 hS23
        (try simp only [Act.put, List.getElem_toArray, List.getElem_cons_succ, List.getElem_cons_zero, List.setIfInBounds_toArray, List.set_cons_zero, List.set_cons_succ])
        refine wpAnyH_ready (rs := [10]) (by kernel_rfl) (by simp) ?_
        refine AllReadyH.cons rfl (fun K1 hK1 => ?_) AllReadyH.nil
        have y0 := X24.out.cell 0 rfl 0 _ rfl
        have z0 := X24.out.frozen 0 rfl 0
        have y1 := X24.out.cell 0 rfl 1 _ rfl
        have z1 := X24.out.frozen 0 rfl 1
        have y2 := X24.out.cell 0 rfl 2 _ rfl
        have z2 := X24.out.frozen 0 rfl 2
        have y3 := X24.out.cell 0 rfl 3 _ rfl
        have z3 := X24.out.frozen 0 rfl 3
        have hset := Bx.set4 (X24.out.get 0 rfl) (.int .u64 (a0 : Nat)) (.bool a1) (.bool a2) (.int .i64 (a3 : Nat))
        have X25 : Hid (Sg w ((((w24.setCell ⟨p11, 0, none⟩ (.int .u64 (a0 : Nat))).setCell ⟨p11, 1, none⟩ (.bool a1)).setCell ⟨p11, 2, none⟩ (.bool a2)).setCell ⟨p11, 3, none⟩ (.int .i64 (a3 : Nat))) F rb M satp kind mode sum mxr [(p11, 36, #[.int .u64 (a0 : Nat), .bool a1, .bool a2, .int .i64 (a3 : Nat)]), (p12, 36, zr), (p10, 40, wc5 satp 1 mode sum mxr), (p9, 40, wc5 satp 2 mode sum mxr)]) := X24.out.set 0 rfl hset.1.1 hset.2
        clear hset
        go_simp
        refine hK1.out _ ((((w24.setCell ⟨p11, 0, none⟩ (.int .u64 (a0 : Nat))).setCell ⟨p11, 1, none⟩ (.bool a1)).setCell ⟨p11, 2, none⟩ (.bool a2)).setCell ⟨p11, 3, none⟩ (.int .i64 (a3 : Nat))) ⟨⟨X25.out.cell 3 rfl 0 _ rfl, X25.out.cell 3 rfl 1 _ rfl, X25.out.cell 3 rfl 2 _ rfl, X25.out.cell 3 rfl 3 _ rfl, X25.out.cell 3 rfl 4 _ rfl⟩, X25.out.cell 2 rfl 0 _ rfl, X25.out.cell 2 rfl 1 _ rfl, X25.out.cell 2 rfl 2 _ rfl, X25.out.cell 2 rfl 3 _ rfl, X25.out.cell 2 rfl 4 _ rfl⟩ (fun hS25 => ?_)
        clear hK1 K1 hS24 y0 z0 y1 z1 y2 z2 y3 z3
        (try simp only [Act.put, List.getElem_toArray, List.getElem_cons_succ, List.getElem_cons_zero, List.setIfInBounds_toArray, List.set_cons_zero, List.set_cons_succ])
        generalize (((w24.setCell ⟨p11, 0, none⟩ (.int .u64 (a0 : Nat))).setCell ⟨p11, 1, none⟩ (.bool a1)).setCell ⟨p11, 2, none⟩ (.bool a2)).setCell ⟨p11, 3, none⟩ (.int .i64 (a3 : Nat)) = w25 at *
        refine wpAnyH_ready (rs := [11]) (by kernel_rfl) (by simp) ?_
        refine AllReadyH.cons rfl (fun K1 hK1 => ?_) AllReadyH.nil
        have y0 := X25.out.cell 1 rfl 0 _ rfl
        have z0 := X25.out.frozen 1 rfl 0
        have y1 := X25.out.cell 1 rfl 1 _ rfl
        have z1 := X25.out.frozen 1 rfl 1
        have y2 := X25.out.cell 1 rfl 2 _ rfl
        have z2 := X25.out.frozen 1 rfl 2
        have y3 := X25.out.cell 1 rfl 3 _ rfl
        have z3 := X25.out.frozen 1 rfl 3
        have hset := Bx.set4 (X25.out.get 1 rfl) (.int .u64 (b0 : Nat)) (.bool b1) (.bool b2) (.int .i64 (b3 : Nat))
        have X26 : Hid (Sg w ((((w25.setCell ⟨p12, 0, none⟩ (.int .u64 (b0 : Nat))).setCell ⟨p12, 1, none⟩ (.bool b1)).setCell ⟨p12, 2, none⟩ (.bool b2)).setCell ⟨p12, 3, none⟩ (.int .i64 (b3 : Nat))) F rb M satp kind mode sum mxr [(p11, 36, #[.int .u64 (a0 : Nat), .bool a1, .bool a2, .int .i64 (a3 : Nat)]), (p12, 36, #[.int .u64 (b0 : Nat), .bool b1, .bool b2, .int .i64 (b3 : Nat)]), (p10, 40, wc5 satp 1 mode sum mxr), (p9, 40, wc5 satp 2 mode sum mxr)]) := X25.out.set 1 rfl hset.1.1 hset.2
        clear hset
        go_simp
        refine hK1.out _ ((((w25.setCell ⟨p12, 0, none⟩ (.int .u64 (b0 : Nat))).setCell ⟨p12, 1, none⟩ (.bool b1)).setCell ⟨p12, 2, none⟩ (.bool b2)).setCell ⟨p12, 3, none⟩ (.int .i64 (b3 : Nat))) ⟨⟨X26.out.cell 3 rfl 0 _ rfl, X26.out.cell 3 rfl 1 _ rfl, X26.out.cell 3 rfl 2 _ rfl, X26.out.cell 3 rfl 3 _ rfl, X26.out.cell 3 rfl 4 _ rfl⟩, X26.out.cell 2 rfl 0 _ rfl, X26.out.cell 2 rfl 1 _ rfl, X26.out.cell 2 rfl 2 _ rfl, X26.out.cell 2 rfl 3 _ rfl, X26.out.cell 2 rfl 4 _ rfl⟩ (fun hS26 => ?_)
        clear hK1 K1 hS25 y0 z0 y1 z1 y2 z2 y3 z3
        (try simp only [Act.put, List.getElem_toArray, List.getElem_cons_succ, List.getElem_cons_zero, List.setIfInBounds_toArray, List.set_cons_zero, List.set_cons_succ])
        generalize (((w25.setCell ⟨p12, 0, none⟩ (.int .u64 (b0 : Nat))).setCell ⟨p12, 1, none⟩ (.bool b1)).setCell ⟨p12, 2, none⟩ (.bool b2)).setCell ⟨p12, 3, none⟩ (.int .i64 (b3 : Nat)) = w26 at *
        refine wpAnyH_done (by kernel_rfl) ?_ _
        clear hS26
        go_wp2_with fail
        go_meet
        exact ⟨p11, p12, rfl, rfl, X26.out.swap⟩
  case rest =>
  obtain ⟨p11, p12, rfl, rfl, ht⟩ := hcut
  have X8 : Hid (Sg w wc F rb M satp kind mode sum mxr [(p12, 36, #[.int .u64 (b0 : Nat), .bool b1, .bool b2, .int .i64 (b3 : Nat)]), (p11, 36, #[.int .u64 (a0 : Nat), .bool a1, .bool a2, .int .i64 (a3 : Nat)]), (p10, 40, wc5 satp 1 mode sum mxr), (p9, 40, wc5 satp 2 mode sum mxr)]) := ht
  clear ht X7
  clear ca cb cw
  have t0 := X8.out.cell 1 rfl 0 _ rfl
  have t1 := X8.out.cell 1 rfl 1 _ rfl
  have e0 := X8.out.cell 0 rfl 0 _ rfl
  have e1 := X8.out.cell 0 rfl 1 _ rfl
  have X9 : Hid (Sg w wc F rb M satp kind mode sum mxr [(p10, 40, wc5 satp 1 mode sum mxr), (p9, 40, wc5 satp 2 mode sum mxr)]) := X8.out.tail.tail
  clear X8
  go_upto_region 9 with fail
  go_cut [63] (fun x wx => x = .bool false ∧ Sg w wx F rb M satp kind mode sum mxr [(p10, 40, wc5 satp 1 mode sum mxr), (p9, 40, wc5 satp 2 mode sum mxr)])
  case first =>
    cases a1
    · have hb1 := (HAB.out rfl).2
      have hb0 : (a0 : Int) = (b0 : Int) := by have := (HAB.out rfl).1; omega
      have g1 : ((a0 : Int) == (b0 : Int)) = true := by simp [hb0]
      rw [hb1] at e1
      rw [← hb0] at e0
      clear hb0 hb1 g1
      have g1 : ((a0 : Int) == (a0 : Int)) = true := by simp
      go_wp2_with fail
      go_meet
      exact ⟨by simp, X9.out⟩
    · go_wp2_with fail
      go_meet
      exact ⟨rfl, X9.out⟩
  case rest =>
  obtain ⟨rfl, ht⟩ := hcut
  clear X9 t0 t1 e0 e1
  have X9 : Hid (Sg w wc F rb M satp kind mode sum mxr [(p10, 40, wc5 satp 1 mode sum mxr), (p9, 40, wc5 satp 2 mode sum mxr)]) := ht
  clear ht
  go_upto_region 11 with fail
  go_cut [13, 14] (fun x y wx => ∃ p13 p14 : Nat, x = .pointer (some ⟨p13, 0, none⟩) ∧ y = .pointer (some ⟨p14, 0, none⟩) ∧ Sg w wx F rb M satp kind mode sum mxr [(p14, 40, wc5 satp 1 mode sum mxr), (p13, 40, wc5 satp 1 mode sum mxr), (p10, 40, wc5 satp 1 mode sum mxr), (p9, 40, wc5 satp 2 mode sum mxr)])
  case first =>
    have Xd : Hid (Sg w wc.drew F rb M satp kind mode sum mxr [(p10, 40, wc5 satp 1 mode sum mxr), (p9, 40, wc5 satp 2 mode sum mxr)]) := X9.out.drew
    refine wp_region_held_drew (S := fun V => V.cell? ⟨p10, 0, none⟩ = some (.int .u64 (satp : Nat)) ∧ V.cell? ⟨p10, 1, none⟩ = some (.int .i64 1) ∧ V.cell? ⟨p10, 2, none⟩ = some (.int .i64 mode) ∧ V.cell? ⟨p10, 3, none⟩ = some (.bool sum) ∧ V.cell? ⟨p10, 4, none⟩ = some (.bool mxr)) (by kernel_rfl) ⟨Xd.out.cell 0 rfl 0 _ rfl, Xd.out.cell 0 rfl 1 _ rfl, Xd.out.cell 0 rfl 2 _ rfl, Xd.out.cell 0 rfl 3 _ rfl, Xd.out.cell 0 rfl 4 _ rfl⟩ ?_
    intro hS
    generalize wc.drew = wd at *
    refine wpAnyH_take (i := 0) (v := ?_) rfl (by kernel_rfl) (by kernel_rfl) (by kernel_rfl) (fun _ _ _ h => h) (Or.inl ⟨by kernel_rfl, ?_⟩) hS ?_
    rotate_left
    · intro w hSw; (try dsimp only at hSw); go_simp; try (with_reducible rfl)
    (try simp only [Act.put, List.getElem_toArray, List.getElem_cons_succ, List.getElem_cons_zero, List.setIfInBounds_toArray, List.set_cons_zero, List.set_cons_succ])
    refine wpAnyH_take (i := 1) (v := ?_) rfl (by kernel_rfl) (by kernel_rfl) (by kernel_rfl) (fun _ _ _ h => h) (Or.inl ⟨by kernel_rfl, ?_⟩) hS ?_
    rotate_left
    · intro w hSw; (try dsimp only at hSw); go_simp; try (with_reducible rfl)
    (try simp only [Act.put, List.getElem_toArray, List.getElem_cons_succ, List.getElem_cons_zero, List.setIfInBounds_toArray, List.set_cons_zero, List.set_cons_succ])
    refine wpAnyH_ready (rs := [2, 3]) (by kernel_rfl) (by simp) ?_
    refine AllReadyH.cons rfl (fun K1 hK1 => ?_) (AllReadyH.cons rfl (fun K1 hK1 => ?_) AllReadyH.nil)
    · go_simp
      have X21 : Hid (Sg w (wd.alloc (.cells zw 40)) F rb M satp kind mode sum mxr [(wd.heap.size, 40, zw), (p10, 40, wc5 satp 1 mode sum mxr), (p9, 40, wc5 satp 2 mode sum mxr)]) := Xd.out.alloc _ _
      refine hK1.out _ (wd.alloc (.cells zw 40)) ⟨X21.out.cell 1 rfl 0 _ rfl, X21.out.cell 1 rfl 1 _ rfl, X21.out.cell 1 rfl 2 _ rfl, X21.out.cell 1 rfl 3 _ rfl, X21.out.cell 1 rfl 4 _ rfl⟩ (fun hS21 => ?_)
      clear hK1 K1 hS
      (try simp only [Act.put, List.getElem_toArray, List.getElem_cons_succ, List.getElem_cons_zero, List.setIfInBounds_toArray, List.set_cons_zero, List.set_cons_succ])
      generalize wd.heap.size = p13 at *
      generalize wd.alloc (.cells zw 40) = w21 at *
      refine wpAnyH_ready (rs := [3]) (by kernel_rfl) (by simp) ?_
      refine AllReadyH.cons rfl (fun K1 hK1 => ?_) AllReadyH.nil
      go_simp
      have X22 : Hid (Sg w (w21.alloc (.cells zw 40)) F rb M satp kind mode sum mxr [(w21.heap.size, 40, zw), (p13, 40, zw), (p10, 40, wc5 satp 1 mode sum mxr), (p9, 40, wc5 satp 2 mode sum mxr)]) := X21.out.alloc _ _
      refine hK1.out _ (w21.alloc (.cells zw 40)) ⟨X22.out.cell 2 rfl 0 _ rfl, X22.out.cell 2 rfl 1 _ rfl, X22.out.cell 2 rfl 2 _ rfl, X22.out.cell 2 rfl 3 _ rfl, X22.out.cell 2 rfl 4 _ rfl⟩ (fun hS22 => ?_)
      clear hK1 K1 hS21
      (try simp only [Act.put, List.getElem_toArray, List.getElem_cons_succ, List.getElem_cons_zero, List.setIfInBounds_toArray, List.set_cons_zero, List.set_cons_succ])
      generalize w21.heap.size = p14 at *
      generalize w21.alloc (.cells zw 40) = w22 at *
      refine wpAnyH_ready (rs := [4]) (by kernel_rfl) (by simp) ?_
      refine AllReadyH.cons rfl (fun K1 hK1 => ?_) AllReadyH.nil
      have y0 := X22.out.cell 1 rfl 0 _ rfl
      have z0 := X22.out.frozen 1 rfl 0
      have y1 := X22.out.cell 1 rfl 1 _ rfl
      have z1 := X22.out.frozen 1 rfl 1
      have y2 := X22.out.cell 1 rfl 2 _ rfl
      have z2 := X22.out.frozen 1 rfl 2
      have y3 := X22.out.cell 1 rfl 3 _ rfl
      have z3 := X22.out.frozen 1 rfl 3
      have y4 := X22.out.cell 1 rfl 4 _ rfl
      have z4 := X22.out.frozen 1 rfl 4
      have hset := Bx.set5 (X22.out.get 1 rfl) (.int .u64 (satp : Nat)) (.int .i64 1) (.int .i64 mode) (.bool sum) (.bool mxr)
      have X23 : Hid (Sg w (((((w22.setCell ⟨p13, 0, none⟩ (.int .u64 (satp : Nat))).setCell ⟨p13, 1, none⟩ (.int .i64 1)).setCell ⟨p13, 2, none⟩ (.int .i64 mode)).setCell ⟨p13, 3, none⟩ (.bool sum)).setCell ⟨p13, 4, none⟩ (.bool mxr)) F rb M satp kind mode sum mxr [(p14, 40, zw), (p13, 40, wc5 satp 1 mode sum mxr), (p10, 40, wc5 satp 1 mode sum mxr), (p9, 40, wc5 satp 2 mode sum mxr)]) := X22.out.set 1 rfl hset.1.1 hset.2
      clear hset
      go_simp
      refine hK1.out _ (((((w22.setCell ⟨p13, 0, none⟩ (.int .u64 (satp : Nat))).setCell ⟨p13, 1, none⟩ (.int .i64 1)).setCell ⟨p13, 2, none⟩ (.int .i64 mode)).setCell ⟨p13, 3, none⟩ (.bool sum)).setCell ⟨p13, 4, none⟩ (.bool mxr)) ⟨X23.out.cell 2 rfl 0 _ rfl, X23.out.cell 2 rfl 1 _ rfl, X23.out.cell 2 rfl 2 _ rfl, X23.out.cell 2 rfl 3 _ rfl, X23.out.cell 2 rfl 4 _ rfl⟩ (fun hS23 => ?_)
      clear hK1 K1 hS22 y0 z0 y1 z1 y2 z2 y3 z3 y4 z4
      (try simp only [Act.put, List.getElem_toArray, List.getElem_cons_succ, List.getElem_cons_zero, List.setIfInBounds_toArray, List.set_cons_zero, List.set_cons_succ])
      generalize ((((w22.setCell ⟨p13, 0, none⟩ (.int .u64 (satp : Nat))).setCell ⟨p13, 1, none⟩ (.int .i64 1)).setCell ⟨p13, 2, none⟩ (.int .i64 mode)).setCell ⟨p13, 3, none⟩ (.bool sum)).setCell ⟨p13, 4, none⟩ (.bool mxr) = w23 at *
      refine wpAnyH_ready (rs := [5]) (by kernel_rfl) (by simp) ?_
      refine AllReadyH.cons rfl (fun K1 hK1 => ?_) AllReadyH.nil
      have y0 := X23.out.cell 0 rfl 0 _ rfl
      have z0 := X23.out.frozen 0 rfl 0
      have y1 := X23.out.cell 0 rfl 1 _ rfl
      have z1 := X23.out.frozen 0 rfl 1
      have y2 := X23.out.cell 0 rfl 2 _ rfl
      have z2 := X23.out.frozen 0 rfl 2
      have y3 := X23.out.cell 0 rfl 3 _ rfl
      have z3 := X23.out.frozen 0 rfl 3
      have y4 := X23.out.cell 0 rfl 4 _ rfl
      have z4 := X23.out.frozen 0 rfl 4
      have hset := Bx.set5 (X23.out.get 0 rfl) (.int .u64 (satp : Nat)) (.int .i64 1) (.int .i64 mode) (.bool sum) (.bool mxr)
      have X24 : Hid (Sg w (((((w23.setCell ⟨p14, 0, none⟩ (.int .u64 (satp : Nat))).setCell ⟨p14, 1, none⟩ (.int .i64 1)).setCell ⟨p14, 2, none⟩ (.int .i64 mode)).setCell ⟨p14, 3, none⟩ (.bool sum)).setCell ⟨p14, 4, none⟩ (.bool mxr)) F rb M satp kind mode sum mxr [(p14, 40, wc5 satp 1 mode sum mxr), (p13, 40, wc5 satp 1 mode sum mxr), (p10, 40, wc5 satp 1 mode sum mxr), (p9, 40, wc5 satp 2 mode sum mxr)]) := X23.out.set 0 rfl hset.1.1 hset.2
      clear hset
      go_simp
      refine hK1.out _ (((((w23.setCell ⟨p14, 0, none⟩ (.int .u64 (satp : Nat))).setCell ⟨p14, 1, none⟩ (.int .i64 1)).setCell ⟨p14, 2, none⟩ (.int .i64 mode)).setCell ⟨p14, 3, none⟩ (.bool sum)).setCell ⟨p14, 4, none⟩ (.bool mxr)) ⟨X24.out.cell 2 rfl 0 _ rfl, X24.out.cell 2 rfl 1 _ rfl, X24.out.cell 2 rfl 2 _ rfl, X24.out.cell 2 rfl 3 _ rfl, X24.out.cell 2 rfl 4 _ rfl⟩ (fun hS24 => ?_)
      clear hK1 K1 hS23 y0 z0 y1 z1 y2 z2 y3 z3 y4 z4
      (try simp only [Act.put, List.getElem_toArray, List.getElem_cons_succ, List.getElem_cons_zero, List.setIfInBounds_toArray, List.set_cons_zero, List.set_cons_succ])
      generalize ((((w23.setCell ⟨p14, 0, none⟩ (.int .u64 (satp : Nat))).setCell ⟨p14, 1, none⟩ (.int .i64 1)).setCell ⟨p14, 2, none⟩ (.int .i64 mode)).setCell ⟨p14, 3, none⟩ (.bool sum)).setCell ⟨p14, 4, none⟩ (.bool mxr) = w24 at *
      refine wpAnyH_done (by kernel_rfl) ?_ _
      clear hS24
      go_wp2_with fail
      go_meet
      exact ⟨p13, p14, rfl, rfl, X24.out⟩
    · go_simp
      have X21 : Hid (Sg w (wd.alloc (.cells zw 40)) F rb M satp kind mode sum mxr [(wd.heap.size, 40, zw), (p10, 40, wc5 satp 1 mode sum mxr), (p9, 40, wc5 satp 2 mode sum mxr)]) := Xd.out.alloc _ _
      refine hK1.out _ (wd.alloc (.cells zw 40)) ⟨X21.out.cell 1 rfl 0 _ rfl, X21.out.cell 1 rfl 1 _ rfl, X21.out.cell 1 rfl 2 _ rfl, X21.out.cell 1 rfl 3 _ rfl, X21.out.cell 1 rfl 4 _ rfl⟩ (fun hS21 => ?_)
      clear hK1 K1 hS
      (try simp only [Act.put, List.getElem_toArray, List.getElem_cons_succ, List.getElem_cons_zero, List.setIfInBounds_toArray, List.set_cons_zero, List.set_cons_succ])
      generalize wd.heap.size = p14 at *
      generalize wd.alloc (.cells zw 40) = w21 at *
      refine wpAnyH_ready (rs := [2]) (by kernel_rfl) (by simp) ?_
      refine AllReadyH.cons rfl (fun K1 hK1 => ?_) AllReadyH.nil
      go_simp
      have X22 : Hid (Sg w (w21.alloc (.cells zw 40)) F rb M satp kind mode sum mxr [(w21.heap.size, 40, zw), (p14, 40, zw), (p10, 40, wc5 satp 1 mode sum mxr), (p9, 40, wc5 satp 2 mode sum mxr)]) := X21.out.alloc _ _
      refine hK1.out _ (w21.alloc (.cells zw 40)) ⟨X22.out.cell 2 rfl 0 _ rfl, X22.out.cell 2 rfl 1 _ rfl, X22.out.cell 2 rfl 2 _ rfl, X22.out.cell 2 rfl 3 _ rfl, X22.out.cell 2 rfl 4 _ rfl⟩ (fun hS22 => ?_)
      clear hK1 K1 hS21
      (try simp only [Act.put, List.getElem_toArray, List.getElem_cons_succ, List.getElem_cons_zero, List.setIfInBounds_toArray, List.set_cons_zero, List.set_cons_succ])
      generalize w21.heap.size = p13 at *
      generalize w21.alloc (.cells zw 40) = w22 at *
      refine wpAnyH_ready (rs := [4]) (by kernel_rfl) (by simp) ?_
      refine AllReadyH.cons rfl (fun K1 hK1 => ?_) AllReadyH.nil
      have y0 := X22.out.cell 0 rfl 0 _ rfl
      have z0 := X22.out.frozen 0 rfl 0
      have y1 := X22.out.cell 0 rfl 1 _ rfl
      have z1 := X22.out.frozen 0 rfl 1
      have y2 := X22.out.cell 0 rfl 2 _ rfl
      have z2 := X22.out.frozen 0 rfl 2
      have y3 := X22.out.cell 0 rfl 3 _ rfl
      have z3 := X22.out.frozen 0 rfl 3
      have y4 := X22.out.cell 0 rfl 4 _ rfl
      have z4 := X22.out.frozen 0 rfl 4
      have hset := Bx.set5 (X22.out.get 0 rfl) (.int .u64 (satp : Nat)) (.int .i64 1) (.int .i64 mode) (.bool sum) (.bool mxr)
      have X23 : Hid (Sg w (((((w22.setCell ⟨p13, 0, none⟩ (.int .u64 (satp : Nat))).setCell ⟨p13, 1, none⟩ (.int .i64 1)).setCell ⟨p13, 2, none⟩ (.int .i64 mode)).setCell ⟨p13, 3, none⟩ (.bool sum)).setCell ⟨p13, 4, none⟩ (.bool mxr)) F rb M satp kind mode sum mxr [(p13, 40, wc5 satp 1 mode sum mxr), (p14, 40, zw), (p10, 40, wc5 satp 1 mode sum mxr), (p9, 40, wc5 satp 2 mode sum mxr)]) := X22.out.set 0 rfl hset.1.1 hset.2
      clear hset
      go_simp
      refine hK1.out _ (((((w22.setCell ⟨p13, 0, none⟩ (.int .u64 (satp : Nat))).setCell ⟨p13, 1, none⟩ (.int .i64 1)).setCell ⟨p13, 2, none⟩ (.int .i64 mode)).setCell ⟨p13, 3, none⟩ (.bool sum)).setCell ⟨p13, 4, none⟩ (.bool mxr)) ⟨X23.out.cell 2 rfl 0 _ rfl, X23.out.cell 2 rfl 1 _ rfl, X23.out.cell 2 rfl 2 _ rfl, X23.out.cell 2 rfl 3 _ rfl, X23.out.cell 2 rfl 4 _ rfl⟩ (fun hS23 => ?_)
      clear hK1 K1 hS22 y0 z0 y1 z1 y2 z2 y3 z3 y4 z4
      (try simp only [Act.put, List.getElem_toArray, List.getElem_cons_succ, List.getElem_cons_zero, List.setIfInBounds_toArray, List.set_cons_zero, List.set_cons_succ])
      generalize ((((w22.setCell ⟨p13, 0, none⟩ (.int .u64 (satp : Nat))).setCell ⟨p13, 1, none⟩ (.int .i64 1)).setCell ⟨p13, 2, none⟩ (.int .i64 mode)).setCell ⟨p13, 3, none⟩ (.bool sum)).setCell ⟨p13, 4, none⟩ (.bool mxr) = w23 at *
      refine wpAnyH_ready (rs := [5]) (by kernel_rfl) (by simp) ?_
      refine AllReadyH.cons rfl (fun K1 hK1 => ?_) AllReadyH.nil
      have y0 := X23.out.cell 1 rfl 0 _ rfl
      have z0 := X23.out.frozen 1 rfl 0
      have y1 := X23.out.cell 1 rfl 1 _ rfl
      have z1 := X23.out.frozen 1 rfl 1
      have y2 := X23.out.cell 1 rfl 2 _ rfl
      have z2 := X23.out.frozen 1 rfl 2
      have y3 := X23.out.cell 1 rfl 3 _ rfl
      have z3 := X23.out.frozen 1 rfl 3
      have y4 := X23.out.cell 1 rfl 4 _ rfl
      have z4 := X23.out.frozen 1 rfl 4
      have hset := Bx.set5 (X23.out.get 1 rfl) (.int .u64 (satp : Nat)) (.int .i64 1) (.int .i64 mode) (.bool sum) (.bool mxr)
      have X24 : Hid (Sg w (((((w23.setCell ⟨p14, 0, none⟩ (.int .u64 (satp : Nat))).setCell ⟨p14, 1, none⟩ (.int .i64 1)).setCell ⟨p14, 2, none⟩ (.int .i64 mode)).setCell ⟨p14, 3, none⟩ (.bool sum)).setCell ⟨p14, 4, none⟩ (.bool mxr)) F rb M satp kind mode sum mxr [(p13, 40, wc5 satp 1 mode sum mxr), (p14, 40, wc5 satp 1 mode sum mxr), (p10, 40, wc5 satp 1 mode sum mxr), (p9, 40, wc5 satp 2 mode sum mxr)]) := X23.out.set 1 rfl hset.1.1 hset.2
      clear hset
      go_simp
      refine hK1.out _ (((((w23.setCell ⟨p14, 0, none⟩ (.int .u64 (satp : Nat))).setCell ⟨p14, 1, none⟩ (.int .i64 1)).setCell ⟨p14, 2, none⟩ (.int .i64 mode)).setCell ⟨p14, 3, none⟩ (.bool sum)).setCell ⟨p14, 4, none⟩ (.bool mxr)) ⟨X24.out.cell 2 rfl 0 _ rfl, X24.out.cell 2 rfl 1 _ rfl, X24.out.cell 2 rfl 2 _ rfl, X24.out.cell 2 rfl 3 _ rfl, X24.out.cell 2 rfl 4 _ rfl⟩ (fun hS24 => ?_)
      clear hK1 K1 hS23 y0 z0 y1 z1 y2 z2 y3 z3 y4 z4
      (try simp only [Act.put, List.getElem_toArray, List.getElem_cons_succ, List.getElem_cons_zero, List.setIfInBounds_toArray, List.set_cons_zero, List.set_cons_succ])
      generalize ((((w23.setCell ⟨p14, 0, none⟩ (.int .u64 (satp : Nat))).setCell ⟨p14, 1, none⟩ (.int .i64 1)).setCell ⟨p14, 2, none⟩ (.int .i64 mode)).setCell ⟨p14, 3, none⟩ (.bool sum)).setCell ⟨p14, 4, none⟩ (.bool mxr) = w24 at *
      refine wpAnyH_done (by kernel_rfl) ?_ _
      clear hS24
      go_wp2_with fail
      go_meet
      exact ⟨p13, p14, rfl, rfl, X24.out.swap⟩
  case rest =>
  obtain ⟨p13, p14, rfl, rfl, ht⟩ := hcut
  have X11 : Hid (Sg w wc F rb M satp kind mode sum mxr [(p14, 40, wc5 satp 1 mode sum mxr), (p13, 40, wc5 satp 1 mode sum mxr), (p10, 40, wc5 satp 1 mode sum mxr), (p9, 40, wc5 satp 2 mode sum mxr)]) := ht
  clear ht X9
  have k1 := X11.out.cell 1 rfl 2 _ rfl
  have k2 := X11.out.frozen 1 rfl 2
  have k3 := X11.out.cell 0 rfl 2 _ rfl
  have k4 := X11.out.frozen 0 rfl 2
  have k7 := X11.out.cell 0 rfl 3 _ rfl
  have k8 := X11.out.frozen 0 rfl 3
  have k5 : p14 ≠ p13 := (X11.out.ne rfl).1
  have k6 : p13 ≠ p14 := (X11.out.ne rfl).2
  go_upto_region 13 with fail
  have Y0 : Hid (Sg w (wc.setCell ⟨p13, 2, none⟩ (.int .i64 0)) F rb M satp kind mode sum mxr [(p14, 40, wc5 satp 1 mode sum mxr), (p13, 40, wc5 satp 1 0 sum mxr), (p10, 40, wc5 satp 1 mode sum mxr), (p9, 40, wc5 satp 2 mode sum mxr)]) := X11.out.set1 1 rfl 2 _
  have Y1 : Hid (Sg w ((wc.setCell ⟨p13, 2, none⟩ (.int .i64 0)).setCell ⟨p14, 2, none⟩ (.int .i64 1)) F rb M satp kind mode sum mxr [(p14, 40, wc5 satp 1 1 sum mxr), (p13, 40, wc5 satp 1 0 sum mxr), (p10, 40, wc5 satp 1 mode sum mxr), (p9, 40, wc5 satp 2 mode sum mxr)]) := Y0.out.set1 0 rfl 2 _
  have Y2 : Hid (Sg w (((wc.setCell ⟨p13, 2, none⟩ (.int .i64 0)).setCell ⟨p14, 2, none⟩ (.int .i64 1)).setCell ⟨p14, 3, none⟩ (.bool true)) F rb M satp kind mode sum mxr [(p14, 40, wc5 satp 1 1 true mxr), (p13, 40, wc5 satp 1 0 sum mxr), (p10, 40, wc5 satp 1 mode sum mxr), (p9, 40, wc5 satp 2 mode sum mxr)]) := Y1.out.set1 0 rfl 3 _
  have X12 : Hid (Sg w (((wc.setCell ⟨p13, 2, none⟩ (.int .i64 0)).setCell ⟨p14, 2, none⟩ (.int .i64 1)).setCell ⟨p14, 3, none⟩ (.bool true)) F rb M satp kind mode sum mxr [(p14, 40, wc5 satp 1 1 true mxr), (p13, 40, wc5 satp 1 0 sum mxr), (p10, 40, wc5 satp 1 mode sum mxr), (p9, 40, wc5 satp 2 mode sum mxr)]) := Y2.out
  clear Y0 Y1 Y2 X11
  generalize ((wc.setCell ⟨p13, 2, none⟩ (.int .i64 0)).setCell ⟨p14, 2, none⟩ (.int .i64 1)).setCell ⟨p14, 3, none⟩ (.bool true) = V12 at *
  clear k1 k2 k3 k4 k5 k6 k7 k8
  go_upto_region 13 with fail
  go_cut [15, 16] (fun x y wx => ∃ p15 p16 : Nat, x = .pointer (some ⟨p15, 0, none⟩) ∧ y = .pointer (some ⟨p16, 0, none⟩) ∧ Sg w wx F rb M satp kind mode sum mxr [(p16, 36, #[.int .u64 (d0 : Nat), .bool d1, .bool d2, .int .i64 (d3 : Nat)]), (p15, 36, #[.int .u64 (c0 : Nat), .bool c1, .bool c2, .int .i64 (c3 : Nat)]), (p14, 40, wc5 satp 1 1 true mxr), (p13, 40, wc5 satp 1 0 sum mxr), (p10, 40, wc5 satp 1 mode sum mxr), (p9, 40, wc5 satp 2 mode sum mxr)])
  case first =>
    have Xd : Hid (Sg w V12.drew F rb M satp kind mode sum mxr [(p14, 40, wc5 satp 1 1 true mxr), (p13, 40, wc5 satp 1 0 sum mxr), (p10, 40, wc5 satp 1 mode sum mxr), (p9, 40, wc5 satp 2 mode sum mxr)]) := X12.out.drew
    refine wp_region_held_drew (S := fun V => (V.cell? ⟨p13, 0, none⟩ = some (.int .u64 (satp : Nat)) ∧ V.cell? ⟨p13, 1, none⟩ = some (.int .i64 1) ∧ V.cell? ⟨p13, 2, none⟩ = some (.int .i64 0) ∧ V.cell? ⟨p13, 3, none⟩ = some (.bool sum) ∧ V.cell? ⟨p13, 4, none⟩ = some (.bool mxr)) ∧ V.cell? ⟨p14, 0, none⟩ = some (.int .u64 (satp : Nat)) ∧ V.cell? ⟨p14, 1, none⟩ = some (.int .i64 1) ∧ V.cell? ⟨p14, 2, none⟩ = some (.int .i64 1) ∧ V.cell? ⟨p14, 3, none⟩ = some (.bool true) ∧ V.cell? ⟨p14, 4, none⟩ = some (.bool mxr)) (by kernel_rfl) ⟨⟨Xd.out.cell 1 rfl 0 _ rfl, Xd.out.cell 1 rfl 1 _ rfl, Xd.out.cell 1 rfl 2 _ rfl, Xd.out.cell 1 rfl 3 _ rfl, Xd.out.cell 1 rfl 4 _ rfl⟩, Xd.out.cell 0 rfl 0 _ rfl, Xd.out.cell 0 rfl 1 _ rfl, Xd.out.cell 0 rfl 2 _ rfl, Xd.out.cell 0 rfl 3 _ rfl, Xd.out.cell 0 rfl 4 _ rfl⟩ ?_
    intro hS
    generalize V12.drew = wd at *
    refine wpAnyH_take (i := 0) (v := ?_) rfl (by kernel_rfl) (by kernel_rfl) (by kernel_rfl) (fun _ _ _ h => h) (Or.inl ⟨by kernel_rfl, ?_⟩) hS ?_
    rotate_left
    · intro w hSw; (try dsimp only at hSw); go_simp; try (with_reducible rfl)
    (try simp only [Act.put, List.getElem_toArray, List.getElem_cons_succ, List.getElem_cons_zero, List.setIfInBounds_toArray, List.set_cons_zero, List.set_cons_succ])
    refine wpAnyH_take (i := 1) (v := ?_) rfl (by kernel_rfl) (by kernel_rfl) (by kernel_rfl) (fun _ _ _ h => h) (Or.inl ⟨by kernel_rfl, ?_⟩) hS ?_
    rotate_left
    · intro w hSw; (try dsimp only at hSw); go_simp; try (with_reducible rfl)
    (try simp only [Act.put, List.getElem_toArray, List.getElem_cons_succ, List.getElem_cons_zero, List.setIfInBounds_toArray, List.set_cons_zero, List.set_cons_succ])
    refine wpAnyH_take (i := 2) (v := ?_) rfl (by kernel_rfl) (by kernel_rfl) (by kernel_rfl) (fun _ _ _ h => h) (Or.inl ⟨by kernel_rfl, ?_⟩) hS ?_
    rotate_left
    · intro w hSw; (try dsimp only at hSw); go_simp; try (with_reducible rfl)
    (try simp only [Act.put, List.getElem_toArray, List.getElem_cons_succ, List.getElem_cons_zero, List.setIfInBounds_toArray, List.set_cons_zero, List.set_cons_succ])
    refine wpAnyH_take (i := 4) (v := ?_) rfl (by kernel_rfl) (by kernel_rfl) (by kernel_rfl) (fun _ _ _ h => h) (Or.inl ⟨by kernel_rfl, ?_⟩) hS ?_
    rotate_left
    · intro w hSw; (try dsimp only at hSw); go_simp; try (with_reducible rfl)
    (try simp only [Act.put, List.getElem_toArray, List.getElem_cons_succ, List.getElem_cons_zero, List.setIfInBounds_toArray, List.set_cons_zero, List.set_cons_succ])
    refine wpAnyH_take (i := 5) (v := ?_) rfl (by kernel_rfl) (by kernel_rfl) (by kernel_rfl) (fun _ _ _ h => h) (Or.inl ⟨by kernel_rfl, ?_⟩) hS ?_
    rotate_left
    · intro w hSw; (try dsimp only at hSw); go_simp; try (with_reducible rfl)
    (try simp only [Act.put, List.getElem_toArray, List.getElem_cons_succ, List.getElem_cons_zero, List.setIfInBounds_toArray, List.set_cons_zero, List.set_cons_succ])
    refine wpAnyH_take (i := 6) (v := ?_) rfl (by kernel_rfl) (by kernel_rfl) (by kernel_rfl) (fun _ _ _ h => h) (Or.inl ⟨by kernel_rfl, ?_⟩) hS ?_
    rotate_left
    · intro w hSw; (try dsimp only at hSw); go_simp; try (with_reducible rfl)
    (try simp only [Act.put, List.getElem_toArray, List.getElem_cons_succ, List.getElem_cons_zero, List.setIfInBounds_toArray, List.set_cons_zero, List.set_cons_succ])
    refine wpAnyH_ready (rs := [3, 8, 9]) (by kernel_rfl) (by simp) ?_
    refine AllReadyH.cons rfl (fun K1 hK1 => ?_) (AllReadyH.cons rfl (fun K1 hK1 => ?_) (AllReadyH.cons rfl (fun K1 hK1 => ?_) AllReadyH.nil))
    · go_simp
      refine (cc _ Xd.out.1.2).mono ?_
      rintro e w21 ⟨rfl, hb⟩
      have X21 : Hid (Sg w w21 F rb M satp kind mode sum mxr [(p14, 40, wc5 satp 1 1 true mxr), (p13, 40, wc5 satp 1 0 sum mxr), (p10, 40, wc5 satp 1 mode sum mxr), (p9, 40, wc5 satp 2 mode sum mxr)]) := Xd.out.step hb
      clear hb
      refine hK1.out _ _ ⟨⟨X21.out.cell 1 rfl 0 _ rfl, X21.out.cell 1 rfl 1 _ rfl, X21.out.cell 1 rfl 2 _ rfl, X21.out.cell 1 rfl 3 _ rfl, X21.out.cell 1 rfl 4 _ rfl⟩, X21.out.cell 0 rfl 0 _ rfl, X21.out.cell 0 rfl 1 _ rfl, X21.out.cell 0 rfl 2 _ rfl, X21.out.cell 0 rfl 3 _ rfl, X21.out.cell 0 rfl 4 _ rfl⟩ (fun hS21 => ?_)
      clear hK1 K1 hS
      (try simp only [Act.put, List.getElem_toArray, List.getElem_cons_succ, List.getElem_cons_zero, List.setIfInBounds_toArray, List.set_cons_zero, List.set_cons_succ])
      refine wpAnyH_ready (rs := [7, 8, 9]) (by kernel_rfl) (by simp) ?_
      refine AllReadyH.cons rfl (fun K1 hK1 => ?_) (AllReadyH.cons rfl (fun K1 hK1 => ?_) (AllReadyH.cons rfl (fun K1 hK1 => ?_) AllReadyH.nil))
      · go_simp
        refine (cd _ X21.out.1.2).mono ?_
        rintro e w22 ⟨rfl, hb⟩
        have X22 : Hid (Sg w w22 F rb M satp kind mode sum mxr [(p14, 40, wc5 satp 1 1 true mxr), (p13, 40, wc5 satp 1 0 sum mxr), (p10, 40, wc5 satp 1 mode sum mxr), (p9, 40, wc5 satp 2 mode sum mxr)]) := X21.out.step hb
        clear hb
        refine hK1.out _ _ ⟨⟨X22.out.cell 1 rfl 0 _ rfl, X22.out.cell 1 rfl 1 _ rfl, X22.out.cell 1 rfl 2 _ rfl, X22.out.cell 1 rfl 3 _ rfl, X22.out.cell 1 rfl 4 _ rfl⟩, X22.out.cell 0 rfl 0 _ rfl, X22.out.cell 0 rfl 1 _ rfl, X22.out.cell 0 rfl 2 _ rfl, X22.out.cell 0 rfl 3 _ rfl, X22.out.cell 0 rfl 4 _ rfl⟩ (fun hS22 => ?_)
        clear hK1 K1 hS21
        (try simp only [Act.put, List.getElem_toArray, List.getElem_cons_succ, List.getElem_cons_zero, List.setIfInBounds_toArray, List.set_cons_zero, List.set_cons_succ])
        refine wpAnyH_ready (rs := [8, 9]) (by kernel_rfl) (by simp) ?_
        refine AllReadyH.cons rfl (fun K1 hK1 => ?_) (AllReadyH.cons rfl (fun K1 hK1 => ?_) AllReadyH.nil)
        · go_simp
          have X23 : Hid (Sg w (w22.alloc (.cells zr 36)) F rb M satp kind mode sum mxr [(w22.heap.size, 36, zr), (p14, 40, wc5 satp 1 1 true mxr), (p13, 40, wc5 satp 1 0 sum mxr), (p10, 40, wc5 satp 1 mode sum mxr), (p9, 40, wc5 satp 2 mode sum mxr)]) := X22.out.alloc _ _
          refine hK1.out _ (w22.alloc (.cells zr 36)) ⟨⟨X23.out.cell 2 rfl 0 _ rfl, X23.out.cell 2 rfl 1 _ rfl, X23.out.cell 2 rfl 2 _ rfl, X23.out.cell 2 rfl 3 _ rfl, X23.out.cell 2 rfl 4 _ rfl⟩, X23.out.cell 1 rfl 0 _ rfl, X23.out.cell 1 rfl 1 _ rfl, X23.out.cell 1 rfl 2 _ rfl, X23.out.cell 1 rfl 3 _ rfl, X23.out.cell 1 rfl 4 _ rfl⟩ (fun hS23 => ?_)
          clear hK1 K1 hS22
          (try simp only [Act.put, List.getElem_toArray, List.getElem_cons_succ, List.getElem_cons_zero, List.setIfInBounds_toArray, List.set_cons_zero, List.set_cons_succ])
          generalize w22.heap.size = p15 at *
          generalize w22.alloc (.cells zr 36) = w23 at *
          refine wpAnyH_ready (rs := [9]) (by kernel_rfl) (by simp) ?_
          refine AllReadyH.cons rfl (fun K1 hK1 => ?_) AllReadyH.nil
          go_simp
          have X24 : Hid (Sg w (w23.alloc (.cells zr 36)) F rb M satp kind mode sum mxr [(w23.heap.size, 36, zr), (p15, 36, zr), (p14, 40, wc5 satp 1 1 true mxr), (p13, 40, wc5 satp 1 0 sum mxr), (p10, 40, wc5 satp 1 mode sum mxr), (p9, 40, wc5 satp 2 mode sum mxr)]) := X23.out.alloc _ _
          refine hK1.out _ (w23.alloc (.cells zr 36)) ⟨⟨X24.out.cell 3 rfl 0 _ rfl, X24.out.cell 3 rfl 1 _ rfl, X24.out.cell 3 rfl 2 _ rfl, X24.out.cell 3 rfl 3 _ rfl, X24.out.cell 3 rfl 4 _ rfl⟩, X24.out.cell 2 rfl 0 _ rfl, X24.out.cell 2 rfl 1 _ rfl, X24.out.cell 2 rfl 2 _ rfl, X24.out.cell 2 rfl 3 _ rfl, X24.out.cell 2 rfl 4 _ rfl⟩ (fun hS24 => ?_)
          clear hK1 K1 hS23
          (try simp only [Act.put, List.getElem_toArray, List.getElem_cons_succ, List.getElem_cons_zero, List.setIfInBounds_toArray, List.set_cons_zero, List.set_cons_succ])
          generalize w23.heap.size = p16 at *
          generalize w23.alloc (.cells zr 36) = w24 at *
          refine wpAnyH_ready (rs := [10]) (by kernel_rfl) (by simp) ?_
          refine AllReadyH.cons rfl (fun K1 hK1 => ?_) AllReadyH.nil
          have y0 := X24.out.cell 1 rfl 0 _ rfl
          have z0 := X24.out.frozen 1 rfl 0
          have y1 := X24.out.cell 1 rfl 1 _ rfl
          have z1 := X24.out.frozen 1 rfl 1
          have y2 := X24.out.cell 1 rfl 2 _ rfl
          have z2 := X24.out.frozen 1 rfl 2
          have y3 := X24.out.cell 1 rfl 3 _ rfl
          have z3 := X24.out.frozen 1 rfl 3
          have hset := Bx.set4 (X24.out.get 1 rfl) (.int .u64 (c0 : Nat)) (.bool c1) (.bool c2) (.int .i64 (c3 : Nat))
          have X25 : Hid (Sg w ((((w24.setCell ⟨p15, 0, none⟩ (.int .u64 (c0 : Nat))).setCell ⟨p15, 1, none⟩ (.bool c1)).setCell ⟨p15, 2, none⟩ (.bool c2)).setCell ⟨p15, 3, none⟩ (.int .i64 (c3 : Nat))) F rb M satp kind mode sum mxr [(p16, 36, zr), (p15, 36, #[.int .u64 (c0 : Nat), .bool c1, .bool c2, .int .i64 (c3 : Nat)]), (p14, 40, wc5 satp 1 1 true mxr), (p13, 40, wc5 satp 1 0 sum mxr), (p10, 40, wc5 satp 1 mode sum mxr), (p9, 40, wc5 satp 2 mode sum mxr)]) := X24.out.set 1 rfl hset.1.1 hset.2
          clear hset
          go_simp
          refine hK1.out _ ((((w24.setCell ⟨p15, 0, none⟩ (.int .u64 (c0 : Nat))).setCell ⟨p15, 1, none⟩ (.bool c1)).setCell ⟨p15, 2, none⟩ (.bool c2)).setCell ⟨p15, 3, none⟩ (.int .i64 (c3 : Nat))) ⟨⟨X25.out.cell 3 rfl 0 _ rfl, X25.out.cell 3 rfl 1 _ rfl, X25.out.cell 3 rfl 2 _ rfl, X25.out.cell 3 rfl 3 _ rfl, X25.out.cell 3 rfl 4 _ rfl⟩, X25.out.cell 2 rfl 0 _ rfl, X25.out.cell 2 rfl 1 _ rfl, X25.out.cell 2 rfl 2 _ rfl, X25.out.cell 2 rfl 3 _ rfl, X25.out.cell 2 rfl 4 _ rfl⟩ (fun hS25 => ?_)
          clear hK1 K1 hS24 y0 z0 y1 z1 y2 z2 y3 z3
          (try simp only [Act.put, List.getElem_toArray, List.getElem_cons_succ, List.getElem_cons_zero, List.setIfInBounds_toArray, List.set_cons_zero, List.set_cons_succ])
          generalize (((w24.setCell ⟨p15, 0, none⟩ (.int .u64 (c0 : Nat))).setCell ⟨p15, 1, none⟩ (.bool c1)).setCell ⟨p15, 2, none⟩ (.bool c2)).setCell ⟨p15, 3, none⟩ (.int .i64 (c3 : Nat)) = w25 at *
          refine wpAnyH_ready (rs := [11]) (by kernel_rfl) (by simp) ?_
          refine AllReadyH.cons rfl (fun K1 hK1 => ?_) AllReadyH.nil
          have y0 := X25.out.cell 0 rfl 0 _ rfl
          have z0 := X25.out.frozen 0 rfl 0
          have y1 := X25.out.cell 0 rfl 1 _ rfl
          have z1 := X25.out.frozen 0 rfl 1
          have y2 := X25.out.cell 0 rfl 2 _ rfl
          have z2 := X25.out.frozen 0 rfl 2
          have y3 := X25.out.cell 0 rfl 3 _ rfl
          have z3 := X25.out.frozen 0 rfl 3
          have hset := Bx.set4 (X25.out.get 0 rfl) (.int .u64 (d0 : Nat)) (.bool d1) (.bool d2) (.int .i64 (d3 : Nat))
          have X26 : Hid (Sg w ((((w25.setCell ⟨p16, 0, none⟩ (.int .u64 (d0 : Nat))).setCell ⟨p16, 1, none⟩ (.bool d1)).setCell ⟨p16, 2, none⟩ (.bool d2)).setCell ⟨p16, 3, none⟩ (.int .i64 (d3 : Nat))) F rb M satp kind mode sum mxr [(p16, 36, #[.int .u64 (d0 : Nat), .bool d1, .bool d2, .int .i64 (d3 : Nat)]), (p15, 36, #[.int .u64 (c0 : Nat), .bool c1, .bool c2, .int .i64 (c3 : Nat)]), (p14, 40, wc5 satp 1 1 true mxr), (p13, 40, wc5 satp 1 0 sum mxr), (p10, 40, wc5 satp 1 mode sum mxr), (p9, 40, wc5 satp 2 mode sum mxr)]) := X25.out.set 0 rfl hset.1.1 hset.2
          clear hset
          go_simp
          refine hK1.out _ ((((w25.setCell ⟨p16, 0, none⟩ (.int .u64 (d0 : Nat))).setCell ⟨p16, 1, none⟩ (.bool d1)).setCell ⟨p16, 2, none⟩ (.bool d2)).setCell ⟨p16, 3, none⟩ (.int .i64 (d3 : Nat))) ⟨⟨X26.out.cell 3 rfl 0 _ rfl, X26.out.cell 3 rfl 1 _ rfl, X26.out.cell 3 rfl 2 _ rfl, X26.out.cell 3 rfl 3 _ rfl, X26.out.cell 3 rfl 4 _ rfl⟩, X26.out.cell 2 rfl 0 _ rfl, X26.out.cell 2 rfl 1 _ rfl, X26.out.cell 2 rfl 2 _ rfl, X26.out.cell 2 rfl 3 _ rfl, X26.out.cell 2 rfl 4 _ rfl⟩ (fun hS26 => ?_)
          clear hK1 K1 hS25 y0 z0 y1 z1 y2 z2 y3 z3
          (try simp only [Act.put, List.getElem_toArray, List.getElem_cons_succ, List.getElem_cons_zero, List.setIfInBounds_toArray, List.set_cons_zero, List.set_cons_succ])
          generalize (((w25.setCell ⟨p16, 0, none⟩ (.int .u64 (d0 : Nat))).setCell ⟨p16, 1, none⟩ (.bool d1)).setCell ⟨p16, 2, none⟩ (.bool d2)).setCell ⟨p16, 3, none⟩ (.int .i64 (d3 : Nat)) = w26 at *
          refine wpAnyH_done (by kernel_rfl) ?_ _
          clear hS26
          go_wp2_with fail
          go_meet
          exact ⟨p15, p16, rfl, rfl, X26.out⟩
        · go_simp
          have X23 : Hid (Sg w (w22.alloc (.cells zr 36)) F rb M satp kind mode sum mxr [(w22.heap.size, 36, zr), (p14, 40, wc5 satp 1 1 true mxr), (p13, 40, wc5 satp 1 0 sum mxr), (p10, 40, wc5 satp 1 mode sum mxr), (p9, 40, wc5 satp 2 mode sum mxr)]) := X22.out.alloc _ _
          refine hK1.out _ (w22.alloc (.cells zr 36)) ⟨⟨X23.out.cell 2 rfl 0 _ rfl, X23.out.cell 2 rfl 1 _ rfl, X23.out.cell 2 rfl 2 _ rfl, X23.out.cell 2 rfl 3 _ rfl, X23.out.cell 2 rfl 4 _ rfl⟩, X23.out.cell 1 rfl 0 _ rfl, X23.out.cell 1 rfl 1 _ rfl, X23.out.cell 1 rfl 2 _ rfl, X23.out.cell 1 rfl 3 _ rfl, X23.out.cell 1 rfl 4 _ rfl⟩ (fun hS23 => ?_)
          clear hK1 K1 hS22
          (try simp only [Act.put, List.getElem_toArray, List.getElem_cons_succ, List.getElem_cons_zero, List.setIfInBounds_toArray, List.set_cons_zero, List.set_cons_succ])
          generalize w22.heap.size = p16 at *
          generalize w22.alloc (.cells zr 36) = w23 at *
          refine wpAnyH_ready (rs := [8]) (by kernel_rfl) (by simp) ?_
          refine AllReadyH.cons rfl (fun K1 hK1 => ?_) AllReadyH.nil
          go_simp
          have X24 : Hid (Sg w (w23.alloc (.cells zr 36)) F rb M satp kind mode sum mxr [(w23.heap.size, 36, zr), (p16, 36, zr), (p14, 40, wc5 satp 1 1 true mxr), (p13, 40, wc5 satp 1 0 sum mxr), (p10, 40, wc5 satp 1 mode sum mxr), (p9, 40, wc5 satp 2 mode sum mxr)]) := X23.out.alloc _ _
          refine hK1.out _ (w23.alloc (.cells zr 36)) ⟨⟨X24.out.cell 3 rfl 0 _ rfl, X24.out.cell 3 rfl 1 _ rfl, X24.out.cell 3 rfl 2 _ rfl, X24.out.cell 3 rfl 3 _ rfl, X24.out.cell 3 rfl 4 _ rfl⟩, X24.out.cell 2 rfl 0 _ rfl, X24.out.cell 2 rfl 1 _ rfl, X24.out.cell 2 rfl 2 _ rfl, X24.out.cell 2 rfl 3 _ rfl, X24.out.cell 2 rfl 4 _ rfl⟩ (fun hS24 => ?_)
          clear hK1 K1 hS23
          (try simp only [Act.put, List.getElem_toArray, List.getElem_cons_succ, List.getElem_cons_zero, List.setIfInBounds_toArray, List.set_cons_zero, List.set_cons_succ])
          generalize w23.heap.size = p15 at *
          generalize w23.alloc (.cells zr 36) = w24 at *
          refine wpAnyH_ready (rs := [10]) (by kernel_rfl) (by simp) ?_
          refine AllReadyH.cons rfl (fun K1 hK1 => ?_) AllReadyH.nil
          have y0 := X24.out.cell 0 rfl 0 _ rfl
          have z0 := X24.out.frozen 0 rfl 0
          have y1 := X24.out.cell 0 rfl 1 _ rfl
          have z1 := X24.out.frozen 0 rfl 1
          have y2 := X24.out.cell 0 rfl 2 _ rfl
          have z2 := X24.out.frozen 0 rfl 2
          have y3 := X24.out.cell 0 rfl 3 _ rfl
          have z3 := X24.out.frozen 0 rfl 3
          have hset := Bx.set4 (X24.out.get 0 rfl) (.int .u64 (c0 : Nat)) (.bool c1) (.bool c2) (.int .i64 (c3 : Nat))
          have X25 : Hid (Sg w ((((w24.setCell ⟨p15, 0, none⟩ (.int .u64 (c0 : Nat))).setCell ⟨p15, 1, none⟩ (.bool c1)).setCell ⟨p15, 2, none⟩ (.bool c2)).setCell ⟨p15, 3, none⟩ (.int .i64 (c3 : Nat))) F rb M satp kind mode sum mxr [(p15, 36, #[.int .u64 (c0 : Nat), .bool c1, .bool c2, .int .i64 (c3 : Nat)]), (p16, 36, zr), (p14, 40, wc5 satp 1 1 true mxr), (p13, 40, wc5 satp 1 0 sum mxr), (p10, 40, wc5 satp 1 mode sum mxr), (p9, 40, wc5 satp 2 mode sum mxr)]) := X24.out.set 0 rfl hset.1.1 hset.2
          clear hset
          go_simp
          refine hK1.out _ ((((w24.setCell ⟨p15, 0, none⟩ (.int .u64 (c0 : Nat))).setCell ⟨p15, 1, none⟩ (.bool c1)).setCell ⟨p15, 2, none⟩ (.bool c2)).setCell ⟨p15, 3, none⟩ (.int .i64 (c3 : Nat))) ⟨⟨X25.out.cell 3 rfl 0 _ rfl, X25.out.cell 3 rfl 1 _ rfl, X25.out.cell 3 rfl 2 _ rfl, X25.out.cell 3 rfl 3 _ rfl, X25.out.cell 3 rfl 4 _ rfl⟩, X25.out.cell 2 rfl 0 _ rfl, X25.out.cell 2 rfl 1 _ rfl, X25.out.cell 2 rfl 2 _ rfl, X25.out.cell 2 rfl 3 _ rfl, X25.out.cell 2 rfl 4 _ rfl⟩ (fun hS25 => ?_)
          clear hK1 K1 hS24 y0 z0 y1 z1 y2 z2 y3 z3
          (try simp only [Act.put, List.getElem_toArray, List.getElem_cons_succ, List.getElem_cons_zero, List.setIfInBounds_toArray, List.set_cons_zero, List.set_cons_succ])
          generalize (((w24.setCell ⟨p15, 0, none⟩ (.int .u64 (c0 : Nat))).setCell ⟨p15, 1, none⟩ (.bool c1)).setCell ⟨p15, 2, none⟩ (.bool c2)).setCell ⟨p15, 3, none⟩ (.int .i64 (c3 : Nat)) = w25 at *
          refine wpAnyH_ready (rs := [11]) (by kernel_rfl) (by simp) ?_
          refine AllReadyH.cons rfl (fun K1 hK1 => ?_) AllReadyH.nil
          have y0 := X25.out.cell 1 rfl 0 _ rfl
          have z0 := X25.out.frozen 1 rfl 0
          have y1 := X25.out.cell 1 rfl 1 _ rfl
          have z1 := X25.out.frozen 1 rfl 1
          have y2 := X25.out.cell 1 rfl 2 _ rfl
          have z2 := X25.out.frozen 1 rfl 2
          have y3 := X25.out.cell 1 rfl 3 _ rfl
          have z3 := X25.out.frozen 1 rfl 3
          have hset := Bx.set4 (X25.out.get 1 rfl) (.int .u64 (d0 : Nat)) (.bool d1) (.bool d2) (.int .i64 (d3 : Nat))
          have X26 : Hid (Sg w ((((w25.setCell ⟨p16, 0, none⟩ (.int .u64 (d0 : Nat))).setCell ⟨p16, 1, none⟩ (.bool d1)).setCell ⟨p16, 2, none⟩ (.bool d2)).setCell ⟨p16, 3, none⟩ (.int .i64 (d3 : Nat))) F rb M satp kind mode sum mxr [(p15, 36, #[.int .u64 (c0 : Nat), .bool c1, .bool c2, .int .i64 (c3 : Nat)]), (p16, 36, #[.int .u64 (d0 : Nat), .bool d1, .bool d2, .int .i64 (d3 : Nat)]), (p14, 40, wc5 satp 1 1 true mxr), (p13, 40, wc5 satp 1 0 sum mxr), (p10, 40, wc5 satp 1 mode sum mxr), (p9, 40, wc5 satp 2 mode sum mxr)]) := X25.out.set 1 rfl hset.1.1 hset.2
          clear hset
          go_simp
          refine hK1.out _ ((((w25.setCell ⟨p16, 0, none⟩ (.int .u64 (d0 : Nat))).setCell ⟨p16, 1, none⟩ (.bool d1)).setCell ⟨p16, 2, none⟩ (.bool d2)).setCell ⟨p16, 3, none⟩ (.int .i64 (d3 : Nat))) ⟨⟨X26.out.cell 3 rfl 0 _ rfl, X26.out.cell 3 rfl 1 _ rfl, X26.out.cell 3 rfl 2 _ rfl, X26.out.cell 3 rfl 3 _ rfl, X26.out.cell 3 rfl 4 _ rfl⟩, X26.out.cell 2 rfl 0 _ rfl, X26.out.cell 2 rfl 1 _ rfl, X26.out.cell 2 rfl 2 _ rfl, X26.out.cell 2 rfl 3 _ rfl, X26.out.cell 2 rfl 4 _ rfl⟩ (fun hS26 => ?_)
          clear hK1 K1 hS25 y0 z0 y1 z1 y2 z2 y3 z3
          (try simp only [Act.put, List.getElem_toArray, List.getElem_cons_succ, List.getElem_cons_zero, List.setIfInBounds_toArray, List.set_cons_zero, List.set_cons_succ])
          generalize (((w25.setCell ⟨p16, 0, none⟩ (.int .u64 (d0 : Nat))).setCell ⟨p16, 1, none⟩ (.bool d1)).setCell ⟨p16, 2, none⟩ (.bool d2)).setCell ⟨p16, 3, none⟩ (.int .i64 (d3 : Nat)) = w26 at *
          refine wpAnyH_done (by kernel_rfl) ?_ _
          clear hS26
          go_wp2_with fail
          go_meet
          exact ⟨p15, p16, rfl, rfl, X26.out.swap⟩
      · go_simp
        have X22 : Hid (Sg w (w21.alloc (.cells zr 36)) F rb M satp kind mode sum mxr [(w21.heap.size, 36, zr), (p14, 40, wc5 satp 1 1 true mxr), (p13, 40, wc5 satp 1 0 sum mxr), (p10, 40, wc5 satp 1 mode sum mxr), (p9, 40, wc5 satp 2 mode sum mxr)]) := X21.out.alloc _ _
        refine hK1.out _ (w21.alloc (.cells zr 36)) ⟨⟨X22.out.cell 2 rfl 0 _ rfl, X22.out.cell 2 rfl 1 _ rfl, X22.out.cell 2 rfl 2 _ rfl, X22.out.cell 2 rfl 3 _ rfl, X22.out.cell 2 rfl 4 _ rfl⟩, X22.out.cell 1 rfl 0 _ rfl, X22.out.cell 1 rfl 1 _ rfl, X22.out.cell 1 rfl 2 _ rfl, X22.out.cell 1 rfl 3 _ rfl, X22.out.cell 1 rfl 4 _ rfl⟩ (fun hS22 => ?_)
        clear hK1 K1 hS21
        (try simp only [Act.put, List.getElem_toArray, List.getElem_cons_succ, List.getElem_cons_zero, List.setIfInBounds_toArray, List.set_cons_zero, List.set_cons_succ])
        generalize w21.heap.size = p15 at *
        generalize w21.alloc (.cells zr 36) = w22 at *
        refine wpAnyH_ready (rs := [7, 9]) (by kernel_rfl) (by simp) ?_
        refine AllReadyH.cons rfl (fun K1 hK1 => ?_) (AllReadyH.cons rfl (fun K1 hK1 => ?_) AllReadyH.nil)
        · go_simp
          refine (cd _ X22.out.1.2).mono ?_
          rintro e w23 ⟨rfl, hb⟩
          have X23 : Hid (Sg w w23 F rb M satp kind mode sum mxr [(p15, 36, zr), (p14, 40, wc5 satp 1 1 true mxr), (p13, 40, wc5 satp 1 0 sum mxr), (p10, 40, wc5 satp 1 mode sum mxr), (p9, 40, wc5 satp 2 mode sum mxr)]) := X22.out.step hb
          clear hb
          refine hK1.out _ _ ⟨⟨X23.out.cell 2 rfl 0 _ rfl, X23.out.cell 2 rfl 1 _ rfl, X23.out.cell 2 rfl 2 _ rfl, X23.out.cell 2 rfl 3 _ rfl, X23.out.cell 2 rfl 4 _ rfl⟩, X23.out.cell 1 rfl 0 _ rfl, X23.out.cell 1 rfl 1 _ rfl, X23.out.cell 1 rfl 2 _ rfl, X23.out.cell 1 rfl 3 _ rfl, X23.out.cell 1 rfl 4 _ rfl⟩ (fun hS23 => ?_)
          clear hK1 K1 hS22
          (try simp only [Act.put, List.getElem_toArray, List.getElem_cons_succ, List.getElem_cons_zero, List.setIfInBounds_toArray, List.set_cons_zero, List.set_cons_succ])
          refine wpAnyH_ready (rs := [9]) (by kernel_rfl) (by simp) ?_
          refine AllReadyH.cons rfl (fun K1 hK1 => ?_) AllReadyH.nil
          go_simp
          have X24 : Hid (Sg w (w23.alloc (.cells zr 36)) F rb M satp kind mode sum mxr [(w23.heap.size, 36, zr), (p15, 36, zr), (p14, 40, wc5 satp 1 1 true mxr), (p13, 40, wc5 satp 1 0 sum mxr), (p10, 40, wc5 satp 1 mode sum mxr), (p9, 40, wc5 satp 2 mode sum mxr)]) := X23.out.alloc _ _
          refine hK1.out _ (w23.alloc (.cells zr 36)) ⟨⟨X24.out.cell 3 rfl 0 _ rfl, X24.out.cell 3 rfl 1 _ rfl, X24.out.cell 3 rfl 2 _ rfl, X24.out.cell 3 rfl 3 _ rfl, X24.out.cell 3 rfl 4 _ rfl⟩, X24.out.cell 2 rfl 0 _ rfl, X24.out.cell 2 rfl 1 _ rfl, X24.out.cell 2 rfl 2 _ rfl, X24.out.cell 2 rfl 3 _ rfl, X24.out.cell 2 rfl 4 _ rfl⟩ (fun hS24 => ?_)
          clear hK1 K1 hS23
          (try simp only [Act.put, List.getElem_toArray, List.getElem_cons_succ, List.getElem_cons_zero, List.setIfInBounds_toArray, List.set_cons_zero, List.set_cons_succ])
          generalize w23.heap.size = p16 at *
          generalize w23.alloc (.cells zr 36) = w24 at *
          refine wpAnyH_ready (rs := [10]) (by kernel_rfl) (by simp) ?_
          refine AllReadyH.cons rfl (fun K1 hK1 => ?_) AllReadyH.nil
          have y0 := X24.out.cell 1 rfl 0 _ rfl
          have z0 := X24.out.frozen 1 rfl 0
          have y1 := X24.out.cell 1 rfl 1 _ rfl
          have z1 := X24.out.frozen 1 rfl 1
          have y2 := X24.out.cell 1 rfl 2 _ rfl
          have z2 := X24.out.frozen 1 rfl 2
          have y3 := X24.out.cell 1 rfl 3 _ rfl
          have z3 := X24.out.frozen 1 rfl 3
          have hset := Bx.set4 (X24.out.get 1 rfl) (.int .u64 (c0 : Nat)) (.bool c1) (.bool c2) (.int .i64 (c3 : Nat))
          have X25 : Hid (Sg w ((((w24.setCell ⟨p15, 0, none⟩ (.int .u64 (c0 : Nat))).setCell ⟨p15, 1, none⟩ (.bool c1)).setCell ⟨p15, 2, none⟩ (.bool c2)).setCell ⟨p15, 3, none⟩ (.int .i64 (c3 : Nat))) F rb M satp kind mode sum mxr [(p16, 36, zr), (p15, 36, #[.int .u64 (c0 : Nat), .bool c1, .bool c2, .int .i64 (c3 : Nat)]), (p14, 40, wc5 satp 1 1 true mxr), (p13, 40, wc5 satp 1 0 sum mxr), (p10, 40, wc5 satp 1 mode sum mxr), (p9, 40, wc5 satp 2 mode sum mxr)]) := X24.out.set 1 rfl hset.1.1 hset.2
          clear hset
          go_simp
          refine hK1.out _ ((((w24.setCell ⟨p15, 0, none⟩ (.int .u64 (c0 : Nat))).setCell ⟨p15, 1, none⟩ (.bool c1)).setCell ⟨p15, 2, none⟩ (.bool c2)).setCell ⟨p15, 3, none⟩ (.int .i64 (c3 : Nat))) ⟨⟨X25.out.cell 3 rfl 0 _ rfl, X25.out.cell 3 rfl 1 _ rfl, X25.out.cell 3 rfl 2 _ rfl, X25.out.cell 3 rfl 3 _ rfl, X25.out.cell 3 rfl 4 _ rfl⟩, X25.out.cell 2 rfl 0 _ rfl, X25.out.cell 2 rfl 1 _ rfl, X25.out.cell 2 rfl 2 _ rfl, X25.out.cell 2 rfl 3 _ rfl, X25.out.cell 2 rfl 4 _ rfl⟩ (fun hS25 => ?_)
          clear hK1 K1 hS24 y0 z0 y1 z1 y2 z2 y3 z3
          (try simp only [Act.put, List.getElem_toArray, List.getElem_cons_succ, List.getElem_cons_zero, List.setIfInBounds_toArray, List.set_cons_zero, List.set_cons_succ])
          generalize (((w24.setCell ⟨p15, 0, none⟩ (.int .u64 (c0 : Nat))).setCell ⟨p15, 1, none⟩ (.bool c1)).setCell ⟨p15, 2, none⟩ (.bool c2)).setCell ⟨p15, 3, none⟩ (.int .i64 (c3 : Nat)) = w25 at *
          refine wpAnyH_ready (rs := [11]) (by kernel_rfl) (by simp) ?_
          refine AllReadyH.cons rfl (fun K1 hK1 => ?_) AllReadyH.nil
          have y0 := X25.out.cell 0 rfl 0 _ rfl
          have z0 := X25.out.frozen 0 rfl 0
          have y1 := X25.out.cell 0 rfl 1 _ rfl
          have z1 := X25.out.frozen 0 rfl 1
          have y2 := X25.out.cell 0 rfl 2 _ rfl
          have z2 := X25.out.frozen 0 rfl 2
          have y3 := X25.out.cell 0 rfl 3 _ rfl
          have z3 := X25.out.frozen 0 rfl 3
          have hset := Bx.set4 (X25.out.get 0 rfl) (.int .u64 (d0 : Nat)) (.bool d1) (.bool d2) (.int .i64 (d3 : Nat))
          have X26 : Hid (Sg w ((((w25.setCell ⟨p16, 0, none⟩ (.int .u64 (d0 : Nat))).setCell ⟨p16, 1, none⟩ (.bool d1)).setCell ⟨p16, 2, none⟩ (.bool d2)).setCell ⟨p16, 3, none⟩ (.int .i64 (d3 : Nat))) F rb M satp kind mode sum mxr [(p16, 36, #[.int .u64 (d0 : Nat), .bool d1, .bool d2, .int .i64 (d3 : Nat)]), (p15, 36, #[.int .u64 (c0 : Nat), .bool c1, .bool c2, .int .i64 (c3 : Nat)]), (p14, 40, wc5 satp 1 1 true mxr), (p13, 40, wc5 satp 1 0 sum mxr), (p10, 40, wc5 satp 1 mode sum mxr), (p9, 40, wc5 satp 2 mode sum mxr)]) := X25.out.set 0 rfl hset.1.1 hset.2
          clear hset
          go_simp
          refine hK1.out _ ((((w25.setCell ⟨p16, 0, none⟩ (.int .u64 (d0 : Nat))).setCell ⟨p16, 1, none⟩ (.bool d1)).setCell ⟨p16, 2, none⟩ (.bool d2)).setCell ⟨p16, 3, none⟩ (.int .i64 (d3 : Nat))) ⟨⟨X26.out.cell 3 rfl 0 _ rfl, X26.out.cell 3 rfl 1 _ rfl, X26.out.cell 3 rfl 2 _ rfl, X26.out.cell 3 rfl 3 _ rfl, X26.out.cell 3 rfl 4 _ rfl⟩, X26.out.cell 2 rfl 0 _ rfl, X26.out.cell 2 rfl 1 _ rfl, X26.out.cell 2 rfl 2 _ rfl, X26.out.cell 2 rfl 3 _ rfl, X26.out.cell 2 rfl 4 _ rfl⟩ (fun hS26 => ?_)
          clear hK1 K1 hS25 y0 z0 y1 z1 y2 z2 y3 z3
          (try simp only [Act.put, List.getElem_toArray, List.getElem_cons_succ, List.getElem_cons_zero, List.setIfInBounds_toArray, List.set_cons_zero, List.set_cons_succ])
          generalize (((w25.setCell ⟨p16, 0, none⟩ (.int .u64 (d0 : Nat))).setCell ⟨p16, 1, none⟩ (.bool d1)).setCell ⟨p16, 2, none⟩ (.bool d2)).setCell ⟨p16, 3, none⟩ (.int .i64 (d3 : Nat)) = w26 at *
          refine wpAnyH_done (by kernel_rfl) ?_ _
          clear hS26
          go_wp2_with fail
          go_meet
          exact ⟨p15, p16, rfl, rfl, X26.out⟩
        · go_simp
          have X23 : Hid (Sg w (w22.alloc (.cells zr 36)) F rb M satp kind mode sum mxr [(w22.heap.size, 36, zr), (p15, 36, zr), (p14, 40, wc5 satp 1 1 true mxr), (p13, 40, wc5 satp 1 0 sum mxr), (p10, 40, wc5 satp 1 mode sum mxr), (p9, 40, wc5 satp 2 mode sum mxr)]) := X22.out.alloc _ _
          refine hK1.out _ (w22.alloc (.cells zr 36)) ⟨⟨X23.out.cell 3 rfl 0 _ rfl, X23.out.cell 3 rfl 1 _ rfl, X23.out.cell 3 rfl 2 _ rfl, X23.out.cell 3 rfl 3 _ rfl, X23.out.cell 3 rfl 4 _ rfl⟩, X23.out.cell 2 rfl 0 _ rfl, X23.out.cell 2 rfl 1 _ rfl, X23.out.cell 2 rfl 2 _ rfl, X23.out.cell 2 rfl 3 _ rfl, X23.out.cell 2 rfl 4 _ rfl⟩ (fun hS23 => ?_)
          clear hK1 K1 hS22
          (try simp only [Act.put, List.getElem_toArray, List.getElem_cons_succ, List.getElem_cons_zero, List.setIfInBounds_toArray, List.set_cons_zero, List.set_cons_succ])
          generalize w22.heap.size = p16 at *
          generalize w22.alloc (.cells zr 36) = w23 at *
          refine wpAnyH_ready (rs := [7]) (by kernel_rfl) (by simp) ?_
          refine AllReadyH.cons rfl (fun K1 hK1 => ?_) AllReadyH.nil
          go_simp
          refine (cd _ X23.out.1.2).mono ?_
          rintro e w24 ⟨rfl, hb⟩
          have X24 : Hid (Sg w w24 F rb M satp kind mode sum mxr [(p16, 36, zr), (p15, 36, zr), (p14, 40, wc5 satp 1 1 true mxr), (p13, 40, wc5 satp 1 0 sum mxr), (p10, 40, wc5 satp 1 mode sum mxr), (p9, 40, wc5 satp 2 mode sum mxr)]) := X23.out.step hb
          clear hb
          refine hK1.out _ _ ⟨⟨X24.out.cell 3 rfl 0 _ rfl, X24.out.cell 3 rfl 1 _ rfl, X24.out.cell 3 rfl 2 _ rfl, X24.out.cell 3 rfl 3 _ rfl, X24.out.cell 3 rfl 4 _ rfl⟩, X24.out.cell 2 rfl 0 _ rfl, X24.out.cell 2 rfl 1 _ rfl, X24.out.cell 2 rfl 2 _ rfl, X24.out.cell 2 rfl 3 _ rfl, X24.out.cell 2 rfl 4 _ rfl⟩ (fun hS24 => ?_)
          clear hK1 K1 hS23
          (try simp only [Act.put, List.getElem_toArray, List.getElem_cons_succ, List.getElem_cons_zero, List.setIfInBounds_toArray, List.set_cons_zero, List.set_cons_succ])
          refine wpAnyH_ready (rs := [10]) (by kernel_rfl) (by simp) ?_
          refine AllReadyH.cons rfl (fun K1 hK1 => ?_) AllReadyH.nil
          have y0 := X24.out.cell 1 rfl 0 _ rfl
          have z0 := X24.out.frozen 1 rfl 0
          have y1 := X24.out.cell 1 rfl 1 _ rfl
          have z1 := X24.out.frozen 1 rfl 1
          have y2 := X24.out.cell 1 rfl 2 _ rfl
          have z2 := X24.out.frozen 1 rfl 2
          have y3 := X24.out.cell 1 rfl 3 _ rfl
          have z3 := X24.out.frozen 1 rfl 3
          have hset := Bx.set4 (X24.out.get 1 rfl) (.int .u64 (c0 : Nat)) (.bool c1) (.bool c2) (.int .i64 (c3 : Nat))
          have X25 : Hid (Sg w ((((w24.setCell ⟨p15, 0, none⟩ (.int .u64 (c0 : Nat))).setCell ⟨p15, 1, none⟩ (.bool c1)).setCell ⟨p15, 2, none⟩ (.bool c2)).setCell ⟨p15, 3, none⟩ (.int .i64 (c3 : Nat))) F rb M satp kind mode sum mxr [(p16, 36, zr), (p15, 36, #[.int .u64 (c0 : Nat), .bool c1, .bool c2, .int .i64 (c3 : Nat)]), (p14, 40, wc5 satp 1 1 true mxr), (p13, 40, wc5 satp 1 0 sum mxr), (p10, 40, wc5 satp 1 mode sum mxr), (p9, 40, wc5 satp 2 mode sum mxr)]) := X24.out.set 1 rfl hset.1.1 hset.2
          clear hset
          go_simp
          refine hK1.out _ ((((w24.setCell ⟨p15, 0, none⟩ (.int .u64 (c0 : Nat))).setCell ⟨p15, 1, none⟩ (.bool c1)).setCell ⟨p15, 2, none⟩ (.bool c2)).setCell ⟨p15, 3, none⟩ (.int .i64 (c3 : Nat))) ⟨⟨X25.out.cell 3 rfl 0 _ rfl, X25.out.cell 3 rfl 1 _ rfl, X25.out.cell 3 rfl 2 _ rfl, X25.out.cell 3 rfl 3 _ rfl, X25.out.cell 3 rfl 4 _ rfl⟩, X25.out.cell 2 rfl 0 _ rfl, X25.out.cell 2 rfl 1 _ rfl, X25.out.cell 2 rfl 2 _ rfl, X25.out.cell 2 rfl 3 _ rfl, X25.out.cell 2 rfl 4 _ rfl⟩ (fun hS25 => ?_)
          clear hK1 K1 hS24 y0 z0 y1 z1 y2 z2 y3 z3
          (try simp only [Act.put, List.getElem_toArray, List.getElem_cons_succ, List.getElem_cons_zero, List.setIfInBounds_toArray, List.set_cons_zero, List.set_cons_succ])
          generalize (((w24.setCell ⟨p15, 0, none⟩ (.int .u64 (c0 : Nat))).setCell ⟨p15, 1, none⟩ (.bool c1)).setCell ⟨p15, 2, none⟩ (.bool c2)).setCell ⟨p15, 3, none⟩ (.int .i64 (c3 : Nat)) = w25 at *
          refine wpAnyH_ready (rs := [11]) (by kernel_rfl) (by simp) ?_
          refine AllReadyH.cons rfl (fun K1 hK1 => ?_) AllReadyH.nil
          have y0 := X25.out.cell 0 rfl 0 _ rfl
          have z0 := X25.out.frozen 0 rfl 0
          have y1 := X25.out.cell 0 rfl 1 _ rfl
          have z1 := X25.out.frozen 0 rfl 1
          have y2 := X25.out.cell 0 rfl 2 _ rfl
          have z2 := X25.out.frozen 0 rfl 2
          have y3 := X25.out.cell 0 rfl 3 _ rfl
          have z3 := X25.out.frozen 0 rfl 3
          have hset := Bx.set4 (X25.out.get 0 rfl) (.int .u64 (d0 : Nat)) (.bool d1) (.bool d2) (.int .i64 (d3 : Nat))
          have X26 : Hid (Sg w ((((w25.setCell ⟨p16, 0, none⟩ (.int .u64 (d0 : Nat))).setCell ⟨p16, 1, none⟩ (.bool d1)).setCell ⟨p16, 2, none⟩ (.bool d2)).setCell ⟨p16, 3, none⟩ (.int .i64 (d3 : Nat))) F rb M satp kind mode sum mxr [(p16, 36, #[.int .u64 (d0 : Nat), .bool d1, .bool d2, .int .i64 (d3 : Nat)]), (p15, 36, #[.int .u64 (c0 : Nat), .bool c1, .bool c2, .int .i64 (c3 : Nat)]), (p14, 40, wc5 satp 1 1 true mxr), (p13, 40, wc5 satp 1 0 sum mxr), (p10, 40, wc5 satp 1 mode sum mxr), (p9, 40, wc5 satp 2 mode sum mxr)]) := X25.out.set 0 rfl hset.1.1 hset.2
          clear hset
          go_simp
          refine hK1.out _ ((((w25.setCell ⟨p16, 0, none⟩ (.int .u64 (d0 : Nat))).setCell ⟨p16, 1, none⟩ (.bool d1)).setCell ⟨p16, 2, none⟩ (.bool d2)).setCell ⟨p16, 3, none⟩ (.int .i64 (d3 : Nat))) ⟨⟨X26.out.cell 3 rfl 0 _ rfl, X26.out.cell 3 rfl 1 _ rfl, X26.out.cell 3 rfl 2 _ rfl, X26.out.cell 3 rfl 3 _ rfl, X26.out.cell 3 rfl 4 _ rfl⟩, X26.out.cell 2 rfl 0 _ rfl, X26.out.cell 2 rfl 1 _ rfl, X26.out.cell 2 rfl 2 _ rfl, X26.out.cell 2 rfl 3 _ rfl, X26.out.cell 2 rfl 4 _ rfl⟩ (fun hS26 => ?_)
          clear hK1 K1 hS25 y0 z0 y1 z1 y2 z2 y3 z3
          (try simp only [Act.put, List.getElem_toArray, List.getElem_cons_succ, List.getElem_cons_zero, List.setIfInBounds_toArray, List.set_cons_zero, List.set_cons_succ])
          generalize (((w25.setCell ⟨p16, 0, none⟩ (.int .u64 (d0 : Nat))).setCell ⟨p16, 1, none⟩ (.bool d1)).setCell ⟨p16, 2, none⟩ (.bool d2)).setCell ⟨p16, 3, none⟩ (.int .i64 (d3 : Nat)) = w26 at *
          refine wpAnyH_done (by kernel_rfl) ?_ _
          clear hS26
          go_wp2_with fail
          go_meet
          exact ⟨p15, p16, rfl, rfl, X26.out⟩
      · go_simp
        have X22 : Hid (Sg w (w21.alloc (.cells zr 36)) F rb M satp kind mode sum mxr [(w21.heap.size, 36, zr), (p14, 40, wc5 satp 1 1 true mxr), (p13, 40, wc5 satp 1 0 sum mxr), (p10, 40, wc5 satp 1 mode sum mxr), (p9, 40, wc5 satp 2 mode sum mxr)]) := X21.out.alloc _ _
        refine hK1.out _ (w21.alloc (.cells zr 36)) ⟨⟨X22.out.cell 2 rfl 0 _ rfl, X22.out.cell 2 rfl 1 _ rfl, X22.out.cell 2 rfl 2 _ rfl, X22.out.cell 2 rfl 3 _ rfl, X22.out.cell 2 rfl 4 _ rfl⟩, X22.out.cell 1 rfl 0 _ rfl, X22.out.cell 1 rfl 1 _ rfl, X22.out.cell 1 rfl 2 _ rfl, X22.out.cell 1 rfl 3 _ rfl, X22.out.cell 1 rfl 4 _ rfl⟩ (fun hS22 => ?_)
        clear hK1 K1 hS21
        (try simp only [Act.put, List.getElem_toArray, List.getElem_cons_succ, List.getElem_cons_zero, List.setIfInBounds_toArray, List.set_cons_zero, List.set_cons_succ])
        generalize w21.heap.size = p16 at *
        generalize w21.alloc (.cells zr 36) = w22 at *
        refine wpAnyH_ready (rs := [7, 8]) (by kernel_rfl) (by simp) ?_
        refine AllReadyH.cons rfl (fun K1 hK1 => ?_) (AllReadyH.cons rfl (fun K1 hK1 => ?_) AllReadyH.nil)
        · go_simp
          refine (cd _ X22.out.1.2).mono ?_
          rintro e w23 ⟨rfl, hb⟩
          have X23 : Hid (Sg w w23 F rb M satp kind mode sum mxr [(p16, 36, zr), (p14, 40, wc5 satp 1 1 true mxr), (p13, 40, wc5 satp 1 0 sum mxr), (p10, 40, wc5 satp 1 mode sum mxr), (p9, 40, wc5 satp 2 mode sum mxr)]) := X22.out.step hb
          clear hb
          refine hK1.out _ _ ⟨⟨X23.out.cell 2 rfl 0 _ rfl, X23.out.cell 2 rfl 1 _ rfl, X23.out.cell 2 rfl 2 _ rfl, X23.out.cell 2 rfl 3 _ rfl, X23.out.cell 2 rfl 4 _ rfl⟩, X23.out.cell 1 rfl 0 _ rfl, X23.out.cell 1 rfl 1 _ rfl, X23.out.cell 1 rfl 2 _ rfl, X23.out.cell 1 rfl 3 _ rfl, X23.out.cell 1 rfl 4 _ rfl⟩ (fun hS23 => ?_)
          clear hK1 K1 hS22
          (try simp only [Act.put, List.getElem_toArray, List.getElem_cons_succ, List.getElem_cons_zero, List.setIfInBounds_toArray, List.set_cons_zero, List.set_cons_succ])
          refine wpAnyH_ready (rs := [8]) (by kernel_rfl) (by simp) ?_
          refine AllReadyH.cons rfl (fun K1 hK1 => ?_) AllReadyH.nil
          go_simp
          have X24 : Hid (Sg w (w23.alloc (.cells zr 36)) F rb M satp kind mode sum mxr [(w23.heap.size, 36, zr), (p16, 36, zr), (p14, 40, wc5 satp 1 1 true mxr), (p13, 40, wc5 satp 1 0 sum mxr), (p10, 40, wc5 satp 1 mode sum mxr), (p9, 40, wc5 satp 2 mode sum mxr)]) := X23.out.alloc _ _
          refine hK1.out _ (w23.alloc (.cells zr 36)) ⟨⟨X24.out.cell 3 rfl 0 _ rfl, X24.out.cell 3 rfl 1 _ rfl, X24.out.cell 3 rfl 2 _ rfl, X24.out.cell 3 rfl 3 _ rfl, X24.out.cell 3 rfl 4 _ rfl⟩, X24.out.cell 2 rfl 0 _ rfl, X24.out.cell 2 rfl 1 _ rfl, X24.out.cell 2 rfl 2 _ rfl, X24.out.cell 2 rfl 3 _ rfl, X24.out.cell 2 rfl 4 _ rfl⟩ (fun hS24 => ?_)
          clear hK1 K1 hS23
          (try simp only [Act.put, List.getElem_toArray, List.getElem_cons_succ, List.getElem_cons_zero, List.setIfInBounds_toArray, List.set_cons_zero, List.set_cons_succ])
          generalize w23.heap.size = p15 at *
          generalize w23.alloc (.cells zr 36) = w24 at *
          refine wpAnyH_ready (rs := [10]) (by kernel_rfl) (by simp) ?_
          refine AllReadyH.cons rfl (fun K1 hK1 => ?_) AllReadyH.nil
          have y0 := X24.out.cell 0 rfl 0 _ rfl
          have z0 := X24.out.frozen 0 rfl 0
          have y1 := X24.out.cell 0 rfl 1 _ rfl
          have z1 := X24.out.frozen 0 rfl 1
          have y2 := X24.out.cell 0 rfl 2 _ rfl
          have z2 := X24.out.frozen 0 rfl 2
          have y3 := X24.out.cell 0 rfl 3 _ rfl
          have z3 := X24.out.frozen 0 rfl 3
          have hset := Bx.set4 (X24.out.get 0 rfl) (.int .u64 (c0 : Nat)) (.bool c1) (.bool c2) (.int .i64 (c3 : Nat))
          have X25 : Hid (Sg w ((((w24.setCell ⟨p15, 0, none⟩ (.int .u64 (c0 : Nat))).setCell ⟨p15, 1, none⟩ (.bool c1)).setCell ⟨p15, 2, none⟩ (.bool c2)).setCell ⟨p15, 3, none⟩ (.int .i64 (c3 : Nat))) F rb M satp kind mode sum mxr [(p15, 36, #[.int .u64 (c0 : Nat), .bool c1, .bool c2, .int .i64 (c3 : Nat)]), (p16, 36, zr), (p14, 40, wc5 satp 1 1 true mxr), (p13, 40, wc5 satp 1 0 sum mxr), (p10, 40, wc5 satp 1 mode sum mxr), (p9, 40, wc5 satp 2 mode sum mxr)]) := X24.out.set 0 rfl hset.1.1 hset.2
          clear hset
          go_simp
          refine hK1.out _ ((((w24.setCell ⟨p15, 0, none⟩ (.int .u64 (c0 : Nat))).setCell ⟨p15, 1, none⟩ (.bool c1)).setCell ⟨p15, 2, none⟩ (.bool c2)).setCell ⟨p15, 3, none⟩ (.int .i64 (c3 : Nat))) ⟨⟨X25.out.cell 3 rfl 0 _ rfl, X25.out.cell 3 rfl 1 _ rfl, X25.out.cell 3 rfl 2 _ rfl, X25.out.cell 3 rfl 3 _ rfl, X25.out.cell 3 rfl 4 _ rfl⟩, X25.out.cell 2 rfl 0 _ rfl, X25.out.cell 2 rfl 1 _ rfl, X25.out.cell 2 rfl 2 _ rfl, X25.out.cell 2 rfl 3 _ rfl, X25.out.cell 2 rfl 4 _ rfl⟩ (fun hS25 => ?_)
          clear hK1 K1 hS24 y0 z0 y1 z1 y2 z2 y3 z3
          (try simp only [Act.put, List.getElem_toArray, List.getElem_cons_succ, List.getElem_cons_zero, List.setIfInBounds_toArray, List.set_cons_zero, List.set_cons_succ])
          generalize (((w24.setCell ⟨p15, 0, none⟩ (.int .u64 (c0 : Nat))).setCell ⟨p15, 1, none⟩ (.bool c1)).setCell ⟨p15, 2, none⟩ (.bool c2)).setCell ⟨p15, 3, none⟩ (.int .i64 (c3 : Nat)) = w25 at *
          refine wpAnyH_ready (rs := [11]) (by kernel_rfl) (by simp) ?_
          refine AllReadyH.cons rfl (fun K1 hK1 => ?_) AllReadyH.nil
          have y0 := X25.out.cell 1 rfl 0 _ rfl
          have z0 := X25.out.frozen 1 rfl 0
          have y1 := X25.out.cell 1 rfl 1 _ rfl
          have z1 := X25.out.frozen 1 rfl 1
          have y2 := X25.out.cell 1 rfl 2 _ rfl
          have z2 := X25.out.frozen 1 rfl 2
          have y3 := X25.out.cell 1 rfl 3 _ rfl
          have z3 := X25.out.frozen 1 rfl 3
          have hset := Bx.set4 (X25.out.get 1 rfl) (.int .u64 (d0 : Nat)) (.bool d1) (.bool d2) (.int .i64 (d3 : Nat))
          have X26 : Hid (Sg w ((((w25.setCell ⟨p16, 0, none⟩ (.int .u64 (d0 : Nat))).setCell ⟨p16, 1, none⟩ (.bool d1)).setCell ⟨p16, 2, none⟩ (.bool d2)).setCell ⟨p16, 3, none⟩ (.int .i64 (d3 : Nat))) F rb M satp kind mode sum mxr [(p15, 36, #[.int .u64 (c0 : Nat), .bool c1, .bool c2, .int .i64 (c3 : Nat)]), (p16, 36, #[.int .u64 (d0 : Nat), .bool d1, .bool d2, .int .i64 (d3 : Nat)]), (p14, 40, wc5 satp 1 1 true mxr), (p13, 40, wc5 satp 1 0 sum mxr), (p10, 40, wc5 satp 1 mode sum mxr), (p9, 40, wc5 satp 2 mode sum mxr)]) := X25.out.set 1 rfl hset.1.1 hset.2
          clear hset
          go_simp
          refine hK1.out _ ((((w25.setCell ⟨p16, 0, none⟩ (.int .u64 (d0 : Nat))).setCell ⟨p16, 1, none⟩ (.bool d1)).setCell ⟨p16, 2, none⟩ (.bool d2)).setCell ⟨p16, 3, none⟩ (.int .i64 (d3 : Nat))) ⟨⟨X26.out.cell 3 rfl 0 _ rfl, X26.out.cell 3 rfl 1 _ rfl, X26.out.cell 3 rfl 2 _ rfl, X26.out.cell 3 rfl 3 _ rfl, X26.out.cell 3 rfl 4 _ rfl⟩, X26.out.cell 2 rfl 0 _ rfl, X26.out.cell 2 rfl 1 _ rfl, X26.out.cell 2 rfl 2 _ rfl, X26.out.cell 2 rfl 3 _ rfl, X26.out.cell 2 rfl 4 _ rfl⟩ (fun hS26 => ?_)
          clear hK1 K1 hS25 y0 z0 y1 z1 y2 z2 y3 z3
          (try simp only [Act.put, List.getElem_toArray, List.getElem_cons_succ, List.getElem_cons_zero, List.setIfInBounds_toArray, List.set_cons_zero, List.set_cons_succ])
          generalize (((w25.setCell ⟨p16, 0, none⟩ (.int .u64 (d0 : Nat))).setCell ⟨p16, 1, none⟩ (.bool d1)).setCell ⟨p16, 2, none⟩ (.bool d2)).setCell ⟨p16, 3, none⟩ (.int .i64 (d3 : Nat)) = w26 at *
          refine wpAnyH_done (by kernel_rfl) ?_ _
          clear hS26
          go_wp2_with fail
          go_meet
          exact ⟨p15, p16, rfl, rfl, X26.out.swap⟩
        · go_simp
          have X23 : Hid (Sg w (w22.alloc (.cells zr 36)) F rb M satp kind mode sum mxr [(w22.heap.size, 36, zr), (p16, 36, zr), (p14, 40, wc5 satp 1 1 true mxr), (p13, 40, wc5 satp 1 0 sum mxr), (p10, 40, wc5 satp 1 mode sum mxr), (p9, 40, wc5 satp 2 mode sum mxr)]) := X22.out.alloc _ _
          refine hK1.out _ (w22.alloc (.cells zr 36)) ⟨⟨X23.out.cell 3 rfl 0 _ rfl, X23.out.cell 3 rfl 1 _ rfl, X23.out.cell 3 rfl 2 _ rfl, X23.out.cell 3 rfl 3 _ rfl, X23.out.cell 3 rfl 4 _ rfl⟩, X23.out.cell 2 rfl 0 _ rfl, X23.out.cell 2 rfl 1 _ rfl, X23.out.cell 2 rfl 2 _ rfl, X23.out.cell 2 rfl 3 _ rfl, X23.out.cell 2 rfl 4 _ rfl⟩ (fun hS23 => ?_)
          clear hK1 K1 hS22
          (try simp only [Act.put, List.getElem_toArray, List.getElem_cons_succ, List.getElem_cons_zero, List.setIfInBounds_toArray, List.set_cons_zero, List.set_cons_succ])
          generalize w22.heap.size = p15 at *
          generalize w22.alloc (.cells zr 36) = w23 at *
          refine wpAnyH_ready (rs := [7]) (by kernel_rfl) (by simp) ?_
          refine AllReadyH.cons rfl (fun K1 hK1 => ?_) AllReadyH.nil
          go_simp
          refine (cd _ X23.out.1.2).mono ?_
          rintro e w24 ⟨rfl, hb⟩
          have X24 : Hid (Sg w w24 F rb M satp kind mode sum mxr [(p15, 36, zr), (p16, 36, zr), (p14, 40, wc5 satp 1 1 true mxr), (p13, 40, wc5 satp 1 0 sum mxr), (p10, 40, wc5 satp 1 mode sum mxr), (p9, 40, wc5 satp 2 mode sum mxr)]) := X23.out.step hb
          clear hb
          refine hK1.out _ _ ⟨⟨X24.out.cell 3 rfl 0 _ rfl, X24.out.cell 3 rfl 1 _ rfl, X24.out.cell 3 rfl 2 _ rfl, X24.out.cell 3 rfl 3 _ rfl, X24.out.cell 3 rfl 4 _ rfl⟩, X24.out.cell 2 rfl 0 _ rfl, X24.out.cell 2 rfl 1 _ rfl, X24.out.cell 2 rfl 2 _ rfl, X24.out.cell 2 rfl 3 _ rfl, X24.out.cell 2 rfl 4 _ rfl⟩ (fun hS24 => ?_)
          clear hK1 K1 hS23
          (try simp only [Act.put, List.getElem_toArray, List.getElem_cons_succ, List.getElem_cons_zero, List.setIfInBounds_toArray, List.set_cons_zero, List.set_cons_succ])
          refine wpAnyH_ready (rs := [10]) (by kernel_rfl) (by simp) ?_
          refine AllReadyH.cons rfl (fun K1 hK1 => ?_) AllReadyH.nil
          have y0 := X24.out.cell 0 rfl 0 _ rfl
          have z0 := X24.out.frozen 0 rfl 0
          have y1 := X24.out.cell 0 rfl 1 _ rfl
          have z1 := X24.out.frozen 0 rfl 1
          have y2 := X24.out.cell 0 rfl 2 _ rfl
          have z2 := X24.out.frozen 0 rfl 2
          have y3 := X24.out.cell 0 rfl 3 _ rfl
          have z3 := X24.out.frozen 0 rfl 3
          have hset := Bx.set4 (X24.out.get 0 rfl) (.int .u64 (c0 : Nat)) (.bool c1) (.bool c2) (.int .i64 (c3 : Nat))
          have X25 : Hid (Sg w ((((w24.setCell ⟨p15, 0, none⟩ (.int .u64 (c0 : Nat))).setCell ⟨p15, 1, none⟩ (.bool c1)).setCell ⟨p15, 2, none⟩ (.bool c2)).setCell ⟨p15, 3, none⟩ (.int .i64 (c3 : Nat))) F rb M satp kind mode sum mxr [(p15, 36, #[.int .u64 (c0 : Nat), .bool c1, .bool c2, .int .i64 (c3 : Nat)]), (p16, 36, zr), (p14, 40, wc5 satp 1 1 true mxr), (p13, 40, wc5 satp 1 0 sum mxr), (p10, 40, wc5 satp 1 mode sum mxr), (p9, 40, wc5 satp 2 mode sum mxr)]) := X24.out.set 0 rfl hset.1.1 hset.2
          clear hset
          go_simp
          refine hK1.out _ ((((w24.setCell ⟨p15, 0, none⟩ (.int .u64 (c0 : Nat))).setCell ⟨p15, 1, none⟩ (.bool c1)).setCell ⟨p15, 2, none⟩ (.bool c2)).setCell ⟨p15, 3, none⟩ (.int .i64 (c3 : Nat))) ⟨⟨X25.out.cell 3 rfl 0 _ rfl, X25.out.cell 3 rfl 1 _ rfl, X25.out.cell 3 rfl 2 _ rfl, X25.out.cell 3 rfl 3 _ rfl, X25.out.cell 3 rfl 4 _ rfl⟩, X25.out.cell 2 rfl 0 _ rfl, X25.out.cell 2 rfl 1 _ rfl, X25.out.cell 2 rfl 2 _ rfl, X25.out.cell 2 rfl 3 _ rfl, X25.out.cell 2 rfl 4 _ rfl⟩ (fun hS25 => ?_)
          clear hK1 K1 hS24 y0 z0 y1 z1 y2 z2 y3 z3
          (try simp only [Act.put, List.getElem_toArray, List.getElem_cons_succ, List.getElem_cons_zero, List.setIfInBounds_toArray, List.set_cons_zero, List.set_cons_succ])
          generalize (((w24.setCell ⟨p15, 0, none⟩ (.int .u64 (c0 : Nat))).setCell ⟨p15, 1, none⟩ (.bool c1)).setCell ⟨p15, 2, none⟩ (.bool c2)).setCell ⟨p15, 3, none⟩ (.int .i64 (c3 : Nat)) = w25 at *
          refine wpAnyH_ready (rs := [11]) (by kernel_rfl) (by simp) ?_
          refine AllReadyH.cons rfl (fun K1 hK1 => ?_) AllReadyH.nil
          have y0 := X25.out.cell 1 rfl 0 _ rfl
          have z0 := X25.out.frozen 1 rfl 0
          have y1 := X25.out.cell 1 rfl 1 _ rfl
          have z1 := X25.out.frozen 1 rfl 1
          have y2 := X25.out.cell 1 rfl 2 _ rfl
          have z2 := X25.out.frozen 1 rfl 2
          have y3 := X25.out.cell 1 rfl 3 _ rfl
          have z3 := X25.out.frozen 1 rfl 3
          have hset := Bx.set4 (X25.out.get 1 rfl) (.int .u64 (d0 : Nat)) (.bool d1) (.bool d2) (.int .i64 (d3 : Nat))
          have X26 : Hid (Sg w ((((w25.setCell ⟨p16, 0, none⟩ (.int .u64 (d0 : Nat))).setCell ⟨p16, 1, none⟩ (.bool d1)).setCell ⟨p16, 2, none⟩ (.bool d2)).setCell ⟨p16, 3, none⟩ (.int .i64 (d3 : Nat))) F rb M satp kind mode sum mxr [(p15, 36, #[.int .u64 (c0 : Nat), .bool c1, .bool c2, .int .i64 (c3 : Nat)]), (p16, 36, #[.int .u64 (d0 : Nat), .bool d1, .bool d2, .int .i64 (d3 : Nat)]), (p14, 40, wc5 satp 1 1 true mxr), (p13, 40, wc5 satp 1 0 sum mxr), (p10, 40, wc5 satp 1 mode sum mxr), (p9, 40, wc5 satp 2 mode sum mxr)]) := X25.out.set 1 rfl hset.1.1 hset.2
          clear hset
          go_simp
          refine hK1.out _ ((((w25.setCell ⟨p16, 0, none⟩ (.int .u64 (d0 : Nat))).setCell ⟨p16, 1, none⟩ (.bool d1)).setCell ⟨p16, 2, none⟩ (.bool d2)).setCell ⟨p16, 3, none⟩ (.int .i64 (d3 : Nat))) ⟨⟨X26.out.cell 3 rfl 0 _ rfl, X26.out.cell 3 rfl 1 _ rfl, X26.out.cell 3 rfl 2 _ rfl, X26.out.cell 3 rfl 3 _ rfl, X26.out.cell 3 rfl 4 _ rfl⟩, X26.out.cell 2 rfl 0 _ rfl, X26.out.cell 2 rfl 1 _ rfl, X26.out.cell 2 rfl 2 _ rfl, X26.out.cell 2 rfl 3 _ rfl, X26.out.cell 2 rfl 4 _ rfl⟩ (fun hS26 => ?_)
          clear hK1 K1 hS25 y0 z0 y1 z1 y2 z2 y3 z3
          (try simp only [Act.put, List.getElem_toArray, List.getElem_cons_succ, List.getElem_cons_zero, List.setIfInBounds_toArray, List.set_cons_zero, List.set_cons_succ])
          generalize (((w25.setCell ⟨p16, 0, none⟩ (.int .u64 (d0 : Nat))).setCell ⟨p16, 1, none⟩ (.bool d1)).setCell ⟨p16, 2, none⟩ (.bool d2)).setCell ⟨p16, 3, none⟩ (.int .i64 (d3 : Nat)) = w26 at *
          refine wpAnyH_done (by kernel_rfl) ?_ _
          clear hS26
          go_wp2_with fail
          go_meet
          exact ⟨p15, p16, rfl, rfl, X26.out.swap⟩
    · go_simp
      have X21 : Hid (Sg w (wd.alloc (.cells zr 36)) F rb M satp kind mode sum mxr [(wd.heap.size, 36, zr), (p14, 40, wc5 satp 1 1 true mxr), (p13, 40, wc5 satp 1 0 sum mxr), (p10, 40, wc5 satp 1 mode sum mxr), (p9, 40, wc5 satp 2 mode sum mxr)]) := Xd.out.alloc _ _
      refine hK1.out _ (wd.alloc (.cells zr 36)) ⟨⟨X21.out.cell 2 rfl 0 _ rfl, X21.out.cell 2 rfl 1 _ rfl, X21.out.cell 2 rfl 2 _ rfl, X21.out.cell 2 rfl 3 _ rfl, X21.out.cell 2 rfl 4 _ rfl⟩, X21.out.cell 1 rfl 0 _ rfl, X21.out.cell 1 rfl 1 _ rfl, X21.out.cell 1 rfl 2 _ rfl, X21.out.cell 1 rfl 3 _ rfl, X21.out.cell 1 rfl 4 _ rfl⟩ (fun hS21 => ?_)
      clear hK1 K1 hS
      (try simp only [Act.put, List.getElem_toArray, List.getElem_cons_succ, List.getElem_cons_zero, List.setIfInBounds_toArray, List.set_cons_zero, List.set_cons_succ])
      generalize wd.heap.size = p15 at *
      generalize wd.alloc (.cells zr 36) = w21 at *
      refine wpAnyH_ready (rs := [3, 9]) (by kernel_rfl) (by simp) ?_
      refine AllReadyH.cons rfl (fun K1 hK1 => ?_) (AllReadyH.cons rfl (fun K1 hK1 => ?_) AllReadyH.nil)
      · go_simp
        refine (cc _ X21.out.1.2).mono ?_
        rintro e w22 ⟨rfl, hb⟩
        have X22 : Hid (Sg w w22 F rb M satp kind mode sum mxr [(p15, 36, zr), (p14, 40, wc5 satp 1 1 true mxr), (p13, 40, wc5 satp 1 0 sum mxr), (p10, 40, wc5 satp 1 mode sum mxr), (p9, 40, wc5 satp 2 mode sum mxr)]) := X21.out.step hb
        clear hb
        refine hK1.out _ _ ⟨⟨X22.out.cell 2 rfl 0 _ rfl, X22.out.cell 2 rfl 1 _ rfl, X22.out.cell 2 rfl 2 _ rfl, X22.out.cell 2 rfl 3 _ rfl, X22.out.cell 2 rfl 4 _ rfl⟩, X22.out.cell 1 rfl 0 _ rfl, X22.out.cell 1 rfl 1 _ rfl, X22.out.cell 1 rfl 2 _ rfl, X22.out.cell 1 rfl 3 _ rfl, X22.out.cell 1 rfl 4 _ rfl⟩ (fun hS22 => ?_)
        clear hK1 K1 hS21
        (try simp only [Act.put, List.getElem_toArray, List.getElem_cons_succ, List.getElem_cons_zero, List.setIfInBounds_toArray, List.set_cons_zero, List.set_cons_succ])
        refine wpAnyH_ready (rs := [7, 9]) (by kernel_rfl) (by simp) ?_
        refine AllReadyH.cons rfl (fun K1 hK1 => ?_) (AllReadyH.cons rfl (fun K1 hK1 => ?_) AllReadyH.nil)
        · go_simp
          refine (cd _ X22.out.1.2).mono ?_
          rintro e w23 ⟨rfl, hb⟩
          have X23 : Hid (Sg w w23 F rb M satp kind mode sum mxr [(p15, 36, zr), (p14, 40, wc5 satp 1 1 true mxr), (p13, 40, wc5 satp 1 0 sum mxr), (p10, 40, wc5 satp 1 mode sum mxr), (p9, 40, wc5 satp 2 mode sum mxr)]) := X22.out.step hb
          clear hb
          refine hK1.out _ _ ⟨⟨X23.out.cell 2 rfl 0 _ rfl, X23.out.cell 2 rfl 1 _ rfl, X23.out.cell 2 rfl 2 _ rfl, X23.out.cell 2 rfl 3 _ rfl, X23.out.cell 2 rfl 4 _ rfl⟩, X23.out.cell 1 rfl 0 _ rfl, X23.out.cell 1 rfl 1 _ rfl, X23.out.cell 1 rfl 2 _ rfl, X23.out.cell 1 rfl 3 _ rfl, X23.out.cell 1 rfl 4 _ rfl⟩ (fun hS23 => ?_)
          clear hK1 K1 hS22
          (try simp only [Act.put, List.getElem_toArray, List.getElem_cons_succ, List.getElem_cons_zero, List.setIfInBounds_toArray, List.set_cons_zero, List.set_cons_succ])
          refine wpAnyH_ready (rs := [9]) (by kernel_rfl) (by simp) ?_
          refine AllReadyH.cons rfl (fun K1 hK1 => ?_) AllReadyH.nil
          go_simp
          have X24 : Hid (Sg w (w23.alloc (.cells zr 36)) F rb M satp kind mode sum mxr [(w23.heap.size, 36, zr), (p15, 36, zr), (p14, 40, wc5 satp 1 1 true mxr), (p13, 40, wc5 satp 1 0 sum mxr), (p10, 40, wc5 satp 1 mode sum mxr), (p9, 40, wc5 satp 2 mode sum mxr)]) := X23.out.alloc _ _
          refine hK1.out _ (w23.alloc (.cells zr 36)) ⟨⟨X24.out.cell 3 rfl 0 _ rfl, X24.out.cell 3 rfl 1 _ rfl, X24.out.cell 3 rfl 2 _ rfl, X24.out.cell 3 rfl 3 _ rfl, X24.out.cell 3 rfl 4 _ rfl⟩, X24.out.cell 2 rfl 0 _ rfl, X24.out.cell 2 rfl 1 _ rfl, X24.out.cell 2 rfl 2 _ rfl, X24.out.cell 2 rfl 3 _ rfl, X24.out.cell 2 rfl 4 _ rfl⟩ (fun hS24 => ?_)
          clear hK1 K1 hS23
          (try simp only [Act.put, List.getElem_toArray, List.getElem_cons_succ, List.getElem_cons_zero, List.setIfInBounds_toArray, List.set_cons_zero, List.set_cons_succ])
          generalize w23.heap.size = p16 at *
          generalize w23.alloc (.cells zr 36) = w24 at *
          refine wpAnyH_ready (rs := [10]) (by kernel_rfl) (by simp) ?_
          refine AllReadyH.cons rfl (fun K1 hK1 => ?_) AllReadyH.nil
          have y0 := X24.out.cell 1 rfl 0 _ rfl
          have z0 := X24.out.frozen 1 rfl 0
          have y1 := X24.out.cell 1 rfl 1 _ rfl
          have z1 := X24.out.frozen 1 rfl 1
          have y2 := X24.out.cell 1 rfl 2 _ rfl
          have z2 := X24.out.frozen 1 rfl 2
          have y3 := X24.out.cell 1 rfl 3 _ rfl
          have z3 := X24.out.frozen 1 rfl 3
          have hset := Bx.set4 (X24.out.get 1 rfl) (.int .u64 (c0 : Nat)) (.bool c1) (.bool c2) (.int .i64 (c3 : Nat))
          have X25 : Hid (Sg w ((((w24.setCell ⟨p15, 0, none⟩ (.int .u64 (c0 : Nat))).setCell ⟨p15, 1, none⟩ (.bool c1)).setCell ⟨p15, 2, none⟩ (.bool c2)).setCell ⟨p15, 3, none⟩ (.int .i64 (c3 : Nat))) F rb M satp kind mode sum mxr [(p16, 36, zr), (p15, 36, #[.int .u64 (c0 : Nat), .bool c1, .bool c2, .int .i64 (c3 : Nat)]), (p14, 40, wc5 satp 1 1 true mxr), (p13, 40, wc5 satp 1 0 sum mxr), (p10, 40, wc5 satp 1 mode sum mxr), (p9, 40, wc5 satp 2 mode sum mxr)]) := X24.out.set 1 rfl hset.1.1 hset.2
          clear hset
          go_simp
          refine hK1.out _ ((((w24.setCell ⟨p15, 0, none⟩ (.int .u64 (c0 : Nat))).setCell ⟨p15, 1, none⟩ (.bool c1)).setCell ⟨p15, 2, none⟩ (.bool c2)).setCell ⟨p15, 3, none⟩ (.int .i64 (c3 : Nat))) ⟨⟨X25.out.cell 3 rfl 0 _ rfl, X25.out.cell 3 rfl 1 _ rfl, X25.out.cell 3 rfl 2 _ rfl, X25.out.cell 3 rfl 3 _ rfl, X25.out.cell 3 rfl 4 _ rfl⟩, X25.out.cell 2 rfl 0 _ rfl, X25.out.cell 2 rfl 1 _ rfl, X25.out.cell 2 rfl 2 _ rfl, X25.out.cell 2 rfl 3 _ rfl, X25.out.cell 2 rfl 4 _ rfl⟩ (fun hS25 => ?_)
          clear hK1 K1 hS24 y0 z0 y1 z1 y2 z2 y3 z3
          (try simp only [Act.put, List.getElem_toArray, List.getElem_cons_succ, List.getElem_cons_zero, List.setIfInBounds_toArray, List.set_cons_zero, List.set_cons_succ])
          generalize (((w24.setCell ⟨p15, 0, none⟩ (.int .u64 (c0 : Nat))).setCell ⟨p15, 1, none⟩ (.bool c1)).setCell ⟨p15, 2, none⟩ (.bool c2)).setCell ⟨p15, 3, none⟩ (.int .i64 (c3 : Nat)) = w25 at *
          refine wpAnyH_ready (rs := [11]) (by kernel_rfl) (by simp) ?_
          refine AllReadyH.cons rfl (fun K1 hK1 => ?_) AllReadyH.nil
          have y0 := X25.out.cell 0 rfl 0 _ rfl
          have z0 := X25.out.frozen 0 rfl 0
          have y1 := X25.out.cell 0 rfl 1 _ rfl
          have z1 := X25.out.frozen 0 rfl 1
          have y2 := X25.out.cell 0 rfl 2 _ rfl
          have z2 := X25.out.frozen 0 rfl 2
          have y3 := X25.out.cell 0 rfl 3 _ rfl
          have z3 := X25.out.frozen 0 rfl 3
          have hset := Bx.set4 (X25.out.get 0 rfl) (.int .u64 (d0 : Nat)) (.bool d1) (.bool d2) (.int .i64 (d3 : Nat))
          have X26 : Hid (Sg w ((((w25.setCell ⟨p16, 0, none⟩ (.int .u64 (d0 : Nat))).setCell ⟨p16, 1, none⟩ (.bool d1)).setCell ⟨p16, 2, none⟩ (.bool d2)).setCell ⟨p16, 3, none⟩ (.int .i64 (d3 : Nat))) F rb M satp kind mode sum mxr [(p16, 36, #[.int .u64 (d0 : Nat), .bool d1, .bool d2, .int .i64 (d3 : Nat)]), (p15, 36, #[.int .u64 (c0 : Nat), .bool c1, .bool c2, .int .i64 (c3 : Nat)]), (p14, 40, wc5 satp 1 1 true mxr), (p13, 40, wc5 satp 1 0 sum mxr), (p10, 40, wc5 satp 1 mode sum mxr), (p9, 40, wc5 satp 2 mode sum mxr)]) := X25.out.set 0 rfl hset.1.1 hset.2
          clear hset
          go_simp
          refine hK1.out _ ((((w25.setCell ⟨p16, 0, none⟩ (.int .u64 (d0 : Nat))).setCell ⟨p16, 1, none⟩ (.bool d1)).setCell ⟨p16, 2, none⟩ (.bool d2)).setCell ⟨p16, 3, none⟩ (.int .i64 (d3 : Nat))) ⟨⟨X26.out.cell 3 rfl 0 _ rfl, X26.out.cell 3 rfl 1 _ rfl, X26.out.cell 3 rfl 2 _ rfl, X26.out.cell 3 rfl 3 _ rfl, X26.out.cell 3 rfl 4 _ rfl⟩, X26.out.cell 2 rfl 0 _ rfl, X26.out.cell 2 rfl 1 _ rfl, X26.out.cell 2 rfl 2 _ rfl, X26.out.cell 2 rfl 3 _ rfl, X26.out.cell 2 rfl 4 _ rfl⟩ (fun hS26 => ?_)
          clear hK1 K1 hS25 y0 z0 y1 z1 y2 z2 y3 z3
          (try simp only [Act.put, List.getElem_toArray, List.getElem_cons_succ, List.getElem_cons_zero, List.setIfInBounds_toArray, List.set_cons_zero, List.set_cons_succ])
          generalize (((w25.setCell ⟨p16, 0, none⟩ (.int .u64 (d0 : Nat))).setCell ⟨p16, 1, none⟩ (.bool d1)).setCell ⟨p16, 2, none⟩ (.bool d2)).setCell ⟨p16, 3, none⟩ (.int .i64 (d3 : Nat)) = w26 at *
          refine wpAnyH_done (by kernel_rfl) ?_ _
          clear hS26
          go_wp2_with fail
          go_meet
          exact ⟨p15, p16, rfl, rfl, X26.out⟩
        · go_simp
          have X23 : Hid (Sg w (w22.alloc (.cells zr 36)) F rb M satp kind mode sum mxr [(w22.heap.size, 36, zr), (p15, 36, zr), (p14, 40, wc5 satp 1 1 true mxr), (p13, 40, wc5 satp 1 0 sum mxr), (p10, 40, wc5 satp 1 mode sum mxr), (p9, 40, wc5 satp 2 mode sum mxr)]) := X22.out.alloc _ _
          refine hK1.out _ (w22.alloc (.cells zr 36)) ⟨⟨X23.out.cell 3 rfl 0 _ rfl, X23.out.cell 3 rfl 1 _ rfl, X23.out.cell 3 rfl 2 _ rfl, X23.out.cell 3 rfl 3 _ rfl, X23.out.cell 3 rfl 4 _ rfl⟩, X23.out.cell 2 rfl 0 _ rfl, X23.out.cell 2 rfl 1 _ rfl, X23.out.cell 2 rfl 2 _ rfl, X23.out.cell 2 rfl 3 _ rfl, X23.out.cell 2 rfl 4 _ rfl⟩ (fun hS23 => ?_)
          clear hK1 K1 hS22
          (try simp only [Act.put, List.getElem_toArray, List.getElem_cons_succ, List.getElem_cons_zero, List.setIfInBounds_toArray, List.set_cons_zero, List.set_cons_succ])
          generalize w22.heap.size = p16 at *
          generalize w22.alloc (.cells zr 36) = w23 at *
          refine wpAnyH_ready (rs := [7]) (by kernel_rfl) (by simp) ?_
          refine AllReadyH.cons rfl (fun K1 hK1 => ?_) AllReadyH.nil
          go_simp
          refine (cd _ X23.out.1.2).mono ?_
          rintro e w24 ⟨rfl, hb⟩
          have X24 : Hid (Sg w w24 F rb M satp kind mode sum mxr [(p16, 36, zr), (p15, 36, zr), (p14, 40, wc5 satp 1 1 true mxr), (p13, 40, wc5 satp 1 0 sum mxr), (p10, 40, wc5 satp 1 mode sum mxr), (p9, 40, wc5 satp 2 mode sum mxr)]) := X23.out.step hb
          clear hb
          refine hK1.out _ _ ⟨⟨X24.out.cell 3 rfl 0 _ rfl, X24.out.cell 3 rfl 1 _ rfl, X24.out.cell 3 rfl 2 _ rfl, X24.out.cell 3 rfl 3 _ rfl, X24.out.cell 3 rfl 4 _ rfl⟩, X24.out.cell 2 rfl 0 _ rfl, X24.out.cell 2 rfl 1 _ rfl, X24.out.cell 2 rfl 2 _ rfl, X24.out.cell 2 rfl 3 _ rfl, X24.out.cell 2 rfl 4 _ rfl⟩ (fun hS24 => ?_)
          clear hK1 K1 hS23
          (try simp only [Act.put, List.getElem_toArray, List.getElem_cons_succ, List.getElem_cons_zero, List.setIfInBounds_toArray, List.set_cons_zero, List.set_cons_succ])
          refine wpAnyH_ready (rs := [10]) (by kernel_rfl) (by simp) ?_
          refine AllReadyH.cons rfl (fun K1 hK1 => ?_) AllReadyH.nil
          have y0 := X24.out.cell 1 rfl 0 _ rfl
          have z0 := X24.out.frozen 1 rfl 0
          have y1 := X24.out.cell 1 rfl 1 _ rfl
          have z1 := X24.out.frozen 1 rfl 1
          have y2 := X24.out.cell 1 rfl 2 _ rfl
          have z2 := X24.out.frozen 1 rfl 2
          have y3 := X24.out.cell 1 rfl 3 _ rfl
          have z3 := X24.out.frozen 1 rfl 3
          have hset := Bx.set4 (X24.out.get 1 rfl) (.int .u64 (c0 : Nat)) (.bool c1) (.bool c2) (.int .i64 (c3 : Nat))
          have X25 : Hid (Sg w ((((w24.setCell ⟨p15, 0, none⟩ (.int .u64 (c0 : Nat))).setCell ⟨p15, 1, none⟩ (.bool c1)).setCell ⟨p15, 2, none⟩ (.bool c2)).setCell ⟨p15, 3, none⟩ (.int .i64 (c3 : Nat))) F rb M satp kind mode sum mxr [(p16, 36, zr), (p15, 36, #[.int .u64 (c0 : Nat), .bool c1, .bool c2, .int .i64 (c3 : Nat)]), (p14, 40, wc5 satp 1 1 true mxr), (p13, 40, wc5 satp 1 0 sum mxr), (p10, 40, wc5 satp 1 mode sum mxr), (p9, 40, wc5 satp 2 mode sum mxr)]) := X24.out.set 1 rfl hset.1.1 hset.2
          clear hset
          go_simp
          refine hK1.out _ ((((w24.setCell ⟨p15, 0, none⟩ (.int .u64 (c0 : Nat))).setCell ⟨p15, 1, none⟩ (.bool c1)).setCell ⟨p15, 2, none⟩ (.bool c2)).setCell ⟨p15, 3, none⟩ (.int .i64 (c3 : Nat))) ⟨⟨X25.out.cell 3 rfl 0 _ rfl, X25.out.cell 3 rfl 1 _ rfl, X25.out.cell 3 rfl 2 _ rfl, X25.out.cell 3 rfl 3 _ rfl, X25.out.cell 3 rfl 4 _ rfl⟩, X25.out.cell 2 rfl 0 _ rfl, X25.out.cell 2 rfl 1 _ rfl, X25.out.cell 2 rfl 2 _ rfl, X25.out.cell 2 rfl 3 _ rfl, X25.out.cell 2 rfl 4 _ rfl⟩ (fun hS25 => ?_)
          clear hK1 K1 hS24 y0 z0 y1 z1 y2 z2 y3 z3
          (try simp only [Act.put, List.getElem_toArray, List.getElem_cons_succ, List.getElem_cons_zero, List.setIfInBounds_toArray, List.set_cons_zero, List.set_cons_succ])
          generalize (((w24.setCell ⟨p15, 0, none⟩ (.int .u64 (c0 : Nat))).setCell ⟨p15, 1, none⟩ (.bool c1)).setCell ⟨p15, 2, none⟩ (.bool c2)).setCell ⟨p15, 3, none⟩ (.int .i64 (c3 : Nat)) = w25 at *
          refine wpAnyH_ready (rs := [11]) (by kernel_rfl) (by simp) ?_
          refine AllReadyH.cons rfl (fun K1 hK1 => ?_) AllReadyH.nil
          have y0 := X25.out.cell 0 rfl 0 _ rfl
          have z0 := X25.out.frozen 0 rfl 0
          have y1 := X25.out.cell 0 rfl 1 _ rfl
          have z1 := X25.out.frozen 0 rfl 1
          have y2 := X25.out.cell 0 rfl 2 _ rfl
          have z2 := X25.out.frozen 0 rfl 2
          have y3 := X25.out.cell 0 rfl 3 _ rfl
          have z3 := X25.out.frozen 0 rfl 3
          have hset := Bx.set4 (X25.out.get 0 rfl) (.int .u64 (d0 : Nat)) (.bool d1) (.bool d2) (.int .i64 (d3 : Nat))
          have X26 : Hid (Sg w ((((w25.setCell ⟨p16, 0, none⟩ (.int .u64 (d0 : Nat))).setCell ⟨p16, 1, none⟩ (.bool d1)).setCell ⟨p16, 2, none⟩ (.bool d2)).setCell ⟨p16, 3, none⟩ (.int .i64 (d3 : Nat))) F rb M satp kind mode sum mxr [(p16, 36, #[.int .u64 (d0 : Nat), .bool d1, .bool d2, .int .i64 (d3 : Nat)]), (p15, 36, #[.int .u64 (c0 : Nat), .bool c1, .bool c2, .int .i64 (c3 : Nat)]), (p14, 40, wc5 satp 1 1 true mxr), (p13, 40, wc5 satp 1 0 sum mxr), (p10, 40, wc5 satp 1 mode sum mxr), (p9, 40, wc5 satp 2 mode sum mxr)]) := X25.out.set 0 rfl hset.1.1 hset.2
          clear hset
          go_simp
          refine hK1.out _ ((((w25.setCell ⟨p16, 0, none⟩ (.int .u64 (d0 : Nat))).setCell ⟨p16, 1, none⟩ (.bool d1)).setCell ⟨p16, 2, none⟩ (.bool d2)).setCell ⟨p16, 3, none⟩ (.int .i64 (d3 : Nat))) ⟨⟨X26.out.cell 3 rfl 0 _ rfl, X26.out.cell 3 rfl 1 _ rfl, X26.out.cell 3 rfl 2 _ rfl, X26.out.cell 3 rfl 3 _ rfl, X26.out.cell 3 rfl 4 _ rfl⟩, X26.out.cell 2 rfl 0 _ rfl, X26.out.cell 2 rfl 1 _ rfl, X26.out.cell 2 rfl 2 _ rfl, X26.out.cell 2 rfl 3 _ rfl, X26.out.cell 2 rfl 4 _ rfl⟩ (fun hS26 => ?_)
          clear hK1 K1 hS25 y0 z0 y1 z1 y2 z2 y3 z3
          (try simp only [Act.put, List.getElem_toArray, List.getElem_cons_succ, List.getElem_cons_zero, List.setIfInBounds_toArray, List.set_cons_zero, List.set_cons_succ])
          generalize (((w25.setCell ⟨p16, 0, none⟩ (.int .u64 (d0 : Nat))).setCell ⟨p16, 1, none⟩ (.bool d1)).setCell ⟨p16, 2, none⟩ (.bool d2)).setCell ⟨p16, 3, none⟩ (.int .i64 (d3 : Nat)) = w26 at *
          refine wpAnyH_done (by kernel_rfl) ?_ _
          clear hS26
          go_wp2_with fail
          go_meet
          exact ⟨p15, p16, rfl, rfl, X26.out⟩
      · go_simp
        have X22 : Hid (Sg w (w21.alloc (.cells zr 36)) F rb M satp kind mode sum mxr [(w21.heap.size, 36, zr), (p15, 36, zr), (p14, 40, wc5 satp 1 1 true mxr), (p13, 40, wc5 satp 1 0 sum mxr), (p10, 40, wc5 satp 1 mode sum mxr), (p9, 40, wc5 satp 2 mode sum mxr)]) := X21.out.alloc _ _
        refine hK1.out _ (w21.alloc (.cells zr 36)) ⟨⟨X22.out.cell 3 rfl 0 _ rfl, X22.out.cell 3 rfl 1 _ rfl, X22.out.cell 3 rfl 2 _ rfl, X22.out.cell 3 rfl 3 _ rfl, X22.out.cell 3 rfl 4 _ rfl⟩, X22.out.cell 2 rfl 0 _ rfl, X22.out.cell 2 rfl 1 _ rfl, X22.out.cell 2 rfl 2 _ rfl, X22.out.cell 2 rfl 3 _ rfl, X22.out.cell 2 rfl 4 _ rfl⟩ (fun hS22 => ?_)
        clear hK1 K1 hS21
        (try simp only [Act.put, List.getElem_toArray, List.getElem_cons_succ, List.getElem_cons_zero, List.setIfInBounds_toArray, List.set_cons_zero, List.set_cons_succ])
        generalize w21.heap.size = p16 at *
        generalize w21.alloc (.cells zr 36) = w22 at *
        refine wpAnyH_ready (rs := [3]) (by kernel_rfl) (by simp) ?_
        refine AllReadyH.cons rfl (fun K1 hK1 => ?_) AllReadyH.nil
        go_simp
        refine (cc _ X22.out.1.2).mono ?_
        rintro e w23 ⟨rfl, hb⟩
        have X23 : Hid (Sg w w23 F rb M satp kind mode sum mxr [(p16, 36, zr), (p15, 36, zr), (p14, 40, wc5 satp 1 1 true mxr), (p13, 40, wc5 satp 1 0 sum mxr), (p10, 40, wc5 satp 1 mode sum mxr), (p9, 40, wc5 satp 2 mode sum mxr)]) := X22.out.step hb
        clear hb
        refine hK1.out _ _ ⟨⟨X23.out.cell 3 rfl 0 _ rfl, X23.out.cell 3 rfl 1 _ rfl, X23.out.cell 3 rfl 2 _ rfl, X23.out.cell 3 rfl 3 _ rfl, X23.out.cell 3 rfl 4 _ rfl⟩, X23.out.cell 2 rfl 0 _ rfl, X23.out.cell 2 rfl 1 _ rfl, X23.out.cell 2 rfl 2 _ rfl, X23.out.cell 2 rfl 3 _ rfl, X23.out.cell 2 rfl 4 _ rfl⟩ (fun hS23 => ?_)
        clear hK1 K1 hS22
        (try simp only [Act.put, List.getElem_toArray, List.getElem_cons_succ, List.getElem_cons_zero, List.setIfInBounds_toArray, List.set_cons_zero, List.set_cons_succ])
        refine wpAnyH_ready (rs := [7]) (by kernel_rfl) (by simp) ?_
        refine AllReadyH.cons rfl (fun K1 hK1 => ?_) AllReadyH.nil
        go_simp
        refine (cd _ X23.out.1.2).mono ?_
        rintro e w24 ⟨rfl, hb⟩
        have X24 : Hid (Sg w w24 F rb M satp kind mode sum mxr [(p16, 36, zr), (p15, 36, zr), (p14, 40, wc5 satp 1 1 true mxr), (p13, 40, wc5 satp 1 0 sum mxr), (p10, 40, wc5 satp 1 mode sum mxr), (p9, 40, wc5 satp 2 mode sum mxr)]) := X23.out.step hb
        clear hb
        refine hK1.out _ _ ⟨⟨X24.out.cell 3 rfl 0 _ rfl, X24.out.cell 3 rfl 1 _ rfl, X24.out.cell 3 rfl 2 _ rfl, X24.out.cell 3 rfl 3 _ rfl, X24.out.cell 3 rfl 4 _ rfl⟩, X24.out.cell 2 rfl 0 _ rfl, X24.out.cell 2 rfl 1 _ rfl, X24.out.cell 2 rfl 2 _ rfl, X24.out.cell 2 rfl 3 _ rfl, X24.out.cell 2 rfl 4 _ rfl⟩ (fun hS24 => ?_)
        clear hK1 K1 hS23
        (try simp only [Act.put, List.getElem_toArray, List.getElem_cons_succ, List.getElem_cons_zero, List.setIfInBounds_toArray, List.set_cons_zero, List.set_cons_succ])
        refine wpAnyH_ready (rs := [10]) (by kernel_rfl) (by simp) ?_
        refine AllReadyH.cons rfl (fun K1 hK1 => ?_) AllReadyH.nil
        have y0 := X24.out.cell 1 rfl 0 _ rfl
        have z0 := X24.out.frozen 1 rfl 0
        have y1 := X24.out.cell 1 rfl 1 _ rfl
        have z1 := X24.out.frozen 1 rfl 1
        have y2 := X24.out.cell 1 rfl 2 _ rfl
        have z2 := X24.out.frozen 1 rfl 2
        have y3 := X24.out.cell 1 rfl 3 _ rfl
        have z3 := X24.out.frozen 1 rfl 3
        have hset := Bx.set4 (X24.out.get 1 rfl) (.int .u64 (c0 : Nat)) (.bool c1) (.bool c2) (.int .i64 (c3 : Nat))
        have X25 : Hid (Sg w ((((w24.setCell ⟨p15, 0, none⟩ (.int .u64 (c0 : Nat))).setCell ⟨p15, 1, none⟩ (.bool c1)).setCell ⟨p15, 2, none⟩ (.bool c2)).setCell ⟨p15, 3, none⟩ (.int .i64 (c3 : Nat))) F rb M satp kind mode sum mxr [(p16, 36, zr), (p15, 36, #[.int .u64 (c0 : Nat), .bool c1, .bool c2, .int .i64 (c3 : Nat)]), (p14, 40, wc5 satp 1 1 true mxr), (p13, 40, wc5 satp 1 0 sum mxr), (p10, 40, wc5 satp 1 mode sum mxr), (p9, 40, wc5 satp 2 mode sum mxr)]) := X24.out.set 1 rfl hset.1.1 hset.2
        clear hset
        go_simp
        refine hK1.out _ ((((w24.setCell ⟨p15, 0, none⟩ (.int .u64 (c0 : Nat))).setCell ⟨p15, 1, none⟩ (.bool c1)).setCell ⟨p15, 2, none⟩ (.bool c2)).setCell ⟨p15, 3, none⟩ (.int .i64 (c3 : Nat))) ⟨⟨X25.out.cell 3 rfl 0 _ rfl, X25.out.cell 3 rfl 1 _ rfl, X25.out.cell 3 rfl 2 _ rfl, X25.out.cell 3 rfl 3 _ rfl, X25.out.cell 3 rfl 4 _ rfl⟩, X25.out.cell 2 rfl 0 _ rfl, X25.out.cell 2 rfl 1 _ rfl, X25.out.cell 2 rfl 2 _ rfl, X25.out.cell 2 rfl 3 _ rfl, X25.out.cell 2 rfl 4 _ rfl⟩ (fun hS25 => ?_)
        clear hK1 K1 hS24 y0 z0 y1 z1 y2 z2 y3 z3
        (try simp only [Act.put, List.getElem_toArray, List.getElem_cons_succ, List.getElem_cons_zero, List.setIfInBounds_toArray, List.set_cons_zero, List.set_cons_succ])
        generalize (((w24.setCell ⟨p15, 0, none⟩ (.int .u64 (c0 : Nat))).setCell ⟨p15, 1, none⟩ (.bool c1)).setCell ⟨p15, 2, none⟩ (.bool c2)).setCell ⟨p15, 3, none⟩ (.int .i64 (c3 : Nat)) = w25 at *
        refine wpAnyH_ready (rs := [11]) (by kernel_rfl) (by simp) ?_
        refine AllReadyH.cons rfl (fun K1 hK1 => ?_) AllReadyH.nil
        have y0 := X25.out.cell 0 rfl 0 _ rfl
        have z0 := X25.out.frozen 0 rfl 0
        have y1 := X25.out.cell 0 rfl 1 _ rfl
        have z1 := X25.out.frozen 0 rfl 1
        have y2 := X25.out.cell 0 rfl 2 _ rfl
        have z2 := X25.out.frozen 0 rfl 2
        have y3 := X25.out.cell 0 rfl 3 _ rfl
        have z3 := X25.out.frozen 0 rfl 3
        have hset := Bx.set4 (X25.out.get 0 rfl) (.int .u64 (d0 : Nat)) (.bool d1) (.bool d2) (.int .i64 (d3 : Nat))
        have X26 : Hid (Sg w ((((w25.setCell ⟨p16, 0, none⟩ (.int .u64 (d0 : Nat))).setCell ⟨p16, 1, none⟩ (.bool d1)).setCell ⟨p16, 2, none⟩ (.bool d2)).setCell ⟨p16, 3, none⟩ (.int .i64 (d3 : Nat))) F rb M satp kind mode sum mxr [(p16, 36, #[.int .u64 (d0 : Nat), .bool d1, .bool d2, .int .i64 (d3 : Nat)]), (p15, 36, #[.int .u64 (c0 : Nat), .bool c1, .bool c2, .int .i64 (c3 : Nat)]), (p14, 40, wc5 satp 1 1 true mxr), (p13, 40, wc5 satp 1 0 sum mxr), (p10, 40, wc5 satp 1 mode sum mxr), (p9, 40, wc5 satp 2 mode sum mxr)]) := X25.out.set 0 rfl hset.1.1 hset.2
        clear hset
        go_simp
        refine hK1.out _ ((((w25.setCell ⟨p16, 0, none⟩ (.int .u64 (d0 : Nat))).setCell ⟨p16, 1, none⟩ (.bool d1)).setCell ⟨p16, 2, none⟩ (.bool d2)).setCell ⟨p16, 3, none⟩ (.int .i64 (d3 : Nat))) ⟨⟨X26.out.cell 3 rfl 0 _ rfl, X26.out.cell 3 rfl 1 _ rfl, X26.out.cell 3 rfl 2 _ rfl, X26.out.cell 3 rfl 3 _ rfl, X26.out.cell 3 rfl 4 _ rfl⟩, X26.out.cell 2 rfl 0 _ rfl, X26.out.cell 2 rfl 1 _ rfl, X26.out.cell 2 rfl 2 _ rfl, X26.out.cell 2 rfl 3 _ rfl, X26.out.cell 2 rfl 4 _ rfl⟩ (fun hS26 => ?_)
        clear hK1 K1 hS25 y0 z0 y1 z1 y2 z2 y3 z3
        (try simp only [Act.put, List.getElem_toArray, List.getElem_cons_succ, List.getElem_cons_zero, List.setIfInBounds_toArray, List.set_cons_zero, List.set_cons_succ])
        generalize (((w25.setCell ⟨p16, 0, none⟩ (.int .u64 (d0 : Nat))).setCell ⟨p16, 1, none⟩ (.bool d1)).setCell ⟨p16, 2, none⟩ (.bool d2)).setCell ⟨p16, 3, none⟩ (.int .i64 (d3 : Nat)) = w26 at *
        refine wpAnyH_done (by kernel_rfl) ?_ _
        clear hS26
        go_wp2_with fail
        go_meet
        exact ⟨p15, p16, rfl, rfl, X26.out⟩
    · go_simp
      have X21 : Hid (Sg w (wd.alloc (.cells zr 36)) F rb M satp kind mode sum mxr [(wd.heap.size, 36, zr), (p14, 40, wc5 satp 1 1 true mxr), (p13, 40, wc5 satp 1 0 sum mxr), (p10, 40, wc5 satp 1 mode sum mxr), (p9, 40, wc5 satp 2 mode sum mxr)]) := Xd.out.alloc _ _
      refine hK1.out _ (wd.alloc (.cells zr 36)) ⟨⟨X21.out.cell 2 rfl 0 _ rfl, X21.out.cell 2 rfl 1 _ rfl, X21.out.cell 2 rfl 2 _ rfl, X21.out.cell 2 rfl 3 _ rfl, X21.out.cell 2 rfl 4 _ rfl⟩, X21.out.cell 1 rfl 0 _ rfl, X21.out.cell 1 rfl 1 _ rfl, X21.out.cell 1 rfl 2 _ rfl, X21.out.cell 1 rfl 3 _ rfl, X21.out.cell 1 rfl 4 _ rfl⟩ (fun hS21 => ?_)
      clear hK1 K1 hS
      (try simp only [Act.put, List.getElem_toArray, List.getElem_cons_succ, List.getElem_cons_zero, List.setIfInBounds_toArray, List.set_cons_zero, List.set_cons_succ])
      generalize wd.heap.size = p16 at *
      generalize wd.alloc (.cells zr 36) = w21 at *
      refine wpAnyH_ready (rs := [3, 8]) (by kernel_rfl) (by simp) ?_
      refine AllReadyH.cons rfl (fun K1 hK1 => ?_) (AllReadyH.cons rfl (fun K1 hK1 => ?_) AllReadyH.nil)
      · go_simp
        refine (cc _ X21.out.1.2).mono ?_
        rintro e w22 ⟨rfl, hb⟩
        have X22 : Hid (Sg w w22 F rb M satp kind mode sum mxr [(p16, 36, zr), (p14, 40, wc5 satp 1 1 true mxr), (p13, 40, wc5 satp 1 0 sum mxr), (p10, 40, wc5 satp 1 mode sum mxr), (p9, 40, wc5 satp 2 mode sum mxr)]) := X21.out.step hb
        clear hb
        refine hK1.out _ _ ⟨⟨X22.out.cell 2 rfl 0 _ rfl, X22.out.cell 2 rfl 1 _ rfl, X22.out.cell 2 rfl 2 _ rfl, X22.out.cell 2 rfl 3 _ rfl, X22.out.cell 2 rfl 4 _ rfl⟩, X22.out.cell 1 rfl 0 _ rfl, X22.out.cell 1 rfl 1 _ rfl, X22.out.cell 1 rfl 2 _ rfl, X22.out.cell 1 rfl 3 _ rfl, X22.out.cell 1 rfl 4 _ rfl⟩ (fun hS22 => ?_)
        clear hK1 K1 hS21
        (try simp only [Act.put, List.getElem_toArray, List.getElem_cons_succ, List.getElem_cons_zero, List.setIfInBounds_toArray, List.set_cons_zero, List.set_cons_succ])
        refine wpAnyH_ready (rs := [7, 8]) (by kernel_rfl) (by simp) ?_
        refine AllReadyH.cons rfl (fun K1 hK1 => ?_) (AllReadyH.cons rfl (fun K1 hK1 => ?_) AllReadyH.nil)
        · go_simp
          refine (cd _ X22.out.1.2).mono ?_
          rintro e w23 ⟨rfl, hb⟩
          have X23 : Hid (Sg w w23 F rb M satp kind mode sum mxr [(p16, 36, zr), (p14, 40, wc5 satp 1 1 true mxr), (p13, 40, wc5 satp 1 0 sum mxr), (p10, 40, wc5 satp 1 mode sum mxr), (p9, 40, wc5 satp 2 mode sum mxr)]) := X22.out.step hb
          clear hb
          refine hK1.out _ _ ⟨⟨X23.out.cell 2 rfl 0 _ rfl, X23.out.cell 2 rfl 1 _ rfl, X23.out.cell 2 rfl 2 _ rfl, X23.out.cell 2 rfl 3 _ rfl, X23.out.cell 2 rfl 4 _ rfl⟩, X23.out.cell 1 rfl 0 _ rfl, X23.out.cell 1 rfl 1 _ rfl, X23.out.cell 1 rfl 2 _ rfl, X23.out.cell 1 rfl 3 _ rfl, X23.out.cell 1 rfl 4 _ rfl⟩ (fun hS23 => ?_)
          clear hK1 K1 hS22
          (try simp only [Act.put, List.getElem_toArray, List.getElem_cons_succ, List.getElem_cons_zero, List.setIfInBounds_toArray, List.set_cons_zero, List.set_cons_succ])
          refine wpAnyH_ready (rs := [8]) (by kernel_rfl) (by simp) ?_
          refine AllReadyH.cons rfl (fun K1 hK1 => ?_) AllReadyH.nil
          go_simp
          have X24 : Hid (Sg w (w23.alloc (.cells zr 36)) F rb M satp kind mode sum mxr [(w23.heap.size, 36, zr), (p16, 36, zr), (p14, 40, wc5 satp 1 1 true mxr), (p13, 40, wc5 satp 1 0 sum mxr), (p10, 40, wc5 satp 1 mode sum mxr), (p9, 40, wc5 satp 2 mode sum mxr)]) := X23.out.alloc _ _
          refine hK1.out _ (w23.alloc (.cells zr 36)) ⟨⟨X24.out.cell 3 rfl 0 _ rfl, X24.out.cell 3 rfl 1 _ rfl, X24.out.cell 3 rfl 2 _ rfl, X24.out.cell 3 rfl 3 _ rfl, X24.out.cell 3 rfl 4 _ rfl⟩, X24.out.cell 2 rfl 0 _ rfl, X24.out.cell 2 rfl 1 _ rfl, X24.out.cell 2 rfl 2 _ rfl, X24.out.cell 2 rfl 3 _ rfl, X24.out.cell 2 rfl 4 _ rfl⟩ (fun hS24 => ?_)
          clear hK1 K1 hS23
          (try simp only [Act.put, List.getElem_toArray, List.getElem_cons_succ, List.getElem_cons_zero, List.setIfInBounds_toArray, List.set_cons_zero, List.set_cons_succ])
          generalize w23.heap.size = p15 at *
          generalize w23.alloc (.cells zr 36) = w24 at *
          refine wpAnyH_ready (rs := [10]) (by kernel_rfl) (by simp) ?_
          refine AllReadyH.cons rfl (fun K1 hK1 => ?_) AllReadyH.nil
          have y0 := X24.out.cell 0 rfl 0 _ rfl
          have z0 := X24.out.frozen 0 rfl 0
          have y1 := X24.out.cell 0 rfl 1 _ rfl
          have z1 := X24.out.frozen 0 rfl 1
          have y2 := X24.out.cell 0 rfl 2 _ rfl
          have z2 := X24.out.frozen 0 rfl 2
          have y3 := X24.out.cell 0 rfl 3 _ rfl
          have z3 := X24.out.frozen 0 rfl 3
          have hset := Bx.set4 (X24.out.get 0 rfl) (.int .u64 (c0 : Nat)) (.bool c1) (.bool c2) (.int .i64 (c3 : Nat))
          have X25 : Hid (Sg w ((((w24.setCell ⟨p15, 0, none⟩ (.int .u64 (c0 : Nat))).setCell ⟨p15, 1, none⟩ (.bool c1)).setCell ⟨p15, 2, none⟩ (.bool c2)).setCell ⟨p15, 3, none⟩ (.int .i64 (c3 : Nat))) F rb M satp kind mode sum mxr [(p15, 36, #[.int .u64 (c0 : Nat), .bool c1, .bool c2, .int .i64 (c3 : Nat)]), (p16, 36, zr), (p14, 40, wc5 satp 1 1 true mxr), (p13, 40, wc5 satp 1 0 sum mxr), (p10, 40, wc5 satp 1 mode sum mxr), (p9, 40, wc5 satp 2 mode sum mxr)]) := X24.out.set 0 rfl hset.1.1 hset.2
          clear hset
          go_simp
          refine hK1.out _ ((((w24.setCell ⟨p15, 0, none⟩ (.int .u64 (c0 : Nat))).setCell ⟨p15, 1, none⟩ (.bool c1)).setCell ⟨p15, 2, none⟩ (.bool c2)).setCell ⟨p15, 3, none⟩ (.int .i64 (c3 : Nat))) ⟨⟨X25.out.cell 3 rfl 0 _ rfl, X25.out.cell 3 rfl 1 _ rfl, X25.out.cell 3 rfl 2 _ rfl, X25.out.cell 3 rfl 3 _ rfl, X25.out.cell 3 rfl 4 _ rfl⟩, X25.out.cell 2 rfl 0 _ rfl, X25.out.cell 2 rfl 1 _ rfl, X25.out.cell 2 rfl 2 _ rfl, X25.out.cell 2 rfl 3 _ rfl, X25.out.cell 2 rfl 4 _ rfl⟩ (fun hS25 => ?_)
          clear hK1 K1 hS24 y0 z0 y1 z1 y2 z2 y3 z3
          (try simp only [Act.put, List.getElem_toArray, List.getElem_cons_succ, List.getElem_cons_zero, List.setIfInBounds_toArray, List.set_cons_zero, List.set_cons_succ])
          generalize (((w24.setCell ⟨p15, 0, none⟩ (.int .u64 (c0 : Nat))).setCell ⟨p15, 1, none⟩ (.bool c1)).setCell ⟨p15, 2, none⟩ (.bool c2)).setCell ⟨p15, 3, none⟩ (.int .i64 (c3 : Nat)) = w25 at *
          refine wpAnyH_ready (rs := [11]) (by kernel_rfl) (by simp) ?_
          refine AllReadyH.cons rfl (fun K1 hK1 => ?_) AllReadyH.nil
          have y0 := X25.out.cell 1 rfl 0 _ rfl
          have z0 := X25.out.frozen 1 rfl 0
          have y1 := X25.out.cell 1 rfl 1 _ rfl
          have z1 := X25.out.frozen 1 rfl 1
          have y2 := X25.out.cell 1 rfl 2 _ rfl
          have z2 := X25.out.frozen 1 rfl 2
          have y3 := X25.out.cell 1 rfl 3 _ rfl
          have z3 := X25.out.frozen 1 rfl 3
          have hset := Bx.set4 (X25.out.get 1 rfl) (.int .u64 (d0 : Nat)) (.bool d1) (.bool d2) (.int .i64 (d3 : Nat))
          have X26 : Hid (Sg w ((((w25.setCell ⟨p16, 0, none⟩ (.int .u64 (d0 : Nat))).setCell ⟨p16, 1, none⟩ (.bool d1)).setCell ⟨p16, 2, none⟩ (.bool d2)).setCell ⟨p16, 3, none⟩ (.int .i64 (d3 : Nat))) F rb M satp kind mode sum mxr [(p15, 36, #[.int .u64 (c0 : Nat), .bool c1, .bool c2, .int .i64 (c3 : Nat)]), (p16, 36, #[.int .u64 (d0 : Nat), .bool d1, .bool d2, .int .i64 (d3 : Nat)]), (p14, 40, wc5 satp 1 1 true mxr), (p13, 40, wc5 satp 1 0 sum mxr), (p10, 40, wc5 satp 1 mode sum mxr), (p9, 40, wc5 satp 2 mode sum mxr)]) := X25.out.set 1 rfl hset.1.1 hset.2
          clear hset
          go_simp
          refine hK1.out _ ((((w25.setCell ⟨p16, 0, none⟩ (.int .u64 (d0 : Nat))).setCell ⟨p16, 1, none⟩ (.bool d1)).setCell ⟨p16, 2, none⟩ (.bool d2)).setCell ⟨p16, 3, none⟩ (.int .i64 (d3 : Nat))) ⟨⟨X26.out.cell 3 rfl 0 _ rfl, X26.out.cell 3 rfl 1 _ rfl, X26.out.cell 3 rfl 2 _ rfl, X26.out.cell 3 rfl 3 _ rfl, X26.out.cell 3 rfl 4 _ rfl⟩, X26.out.cell 2 rfl 0 _ rfl, X26.out.cell 2 rfl 1 _ rfl, X26.out.cell 2 rfl 2 _ rfl, X26.out.cell 2 rfl 3 _ rfl, X26.out.cell 2 rfl 4 _ rfl⟩ (fun hS26 => ?_)
          clear hK1 K1 hS25 y0 z0 y1 z1 y2 z2 y3 z3
          (try simp only [Act.put, List.getElem_toArray, List.getElem_cons_succ, List.getElem_cons_zero, List.setIfInBounds_toArray, List.set_cons_zero, List.set_cons_succ])
          generalize (((w25.setCell ⟨p16, 0, none⟩ (.int .u64 (d0 : Nat))).setCell ⟨p16, 1, none⟩ (.bool d1)).setCell ⟨p16, 2, none⟩ (.bool d2)).setCell ⟨p16, 3, none⟩ (.int .i64 (d3 : Nat)) = w26 at *
          refine wpAnyH_done (by kernel_rfl) ?_ _
          clear hS26
          go_wp2_with fail
          go_meet
          exact ⟨p15, p16, rfl, rfl, X26.out.swap⟩
        · go_simp
          have X23 : Hid (Sg w (w22.alloc (.cells zr 36)) F rb M satp kind mode sum mxr [(w22.heap.size, 36, zr), (p16, 36, zr), (p14, 40, wc5 satp 1 1 true mxr), (p13, 40, wc5 satp 1 0 sum mxr), (p10, 40, wc5 satp 1 mode sum mxr), (p9, 40, wc5 satp 2 mode sum mxr)]) := X22.out.alloc _ _
          refine hK1.out _ (w22.alloc (.cells zr 36)) ⟨⟨X23.out.cell 3 rfl 0 _ rfl, X23.out.cell 3 rfl 1 _ rfl, X23.out.cell 3 rfl 2 _ rfl, X23.out.cell 3 rfl 3 _ rfl, X23.out.cell 3 rfl 4 _ rfl⟩, X23.out.cell 2 rfl 0 _ rfl, X23.out.cell 2 rfl 1 _ rfl, X23.out.cell 2 rfl 2 _ rfl, X23.out.cell 2 rfl 3 _ rfl, X23.out.cell 2 rfl 4 _ rfl⟩ (fun hS23 => ?_)
          clear hK1 K1 hS22
          (try simp only [Act.put, List.getElem_toArray, List.getElem_cons_succ, List.getElem_cons_zero, List.setIfInBounds_toArray, List.set_cons_zero, List.set_cons_succ])
          generalize w22.heap.size = p15 at *
          generalize w22.alloc (.cells zr 36) = w23 at *
          refine wpAnyH_ready (rs := [7]) (by kernel_rfl) (by simp) ?_
          refine AllReadyH.cons rfl (fun K1 hK1 => ?_) AllReadyH.nil
          go_simp
          refine (cd _ X23.out.1.2).mono ?_
          rintro e w24 ⟨rfl, hb⟩
          have X24 : Hid (Sg w w24 F rb M satp kind mode sum mxr [(p15, 36, zr), (p16, 36, zr), (p14, 40, wc5 satp 1 1 true mxr), (p13, 40, wc5 satp 1 0 sum mxr), (p10, 40, wc5 satp 1 mode sum mxr), (p9, 40, wc5 satp 2 mode sum mxr)]) := X23.out.step hb
          clear hb
          refine hK1.out _ _ ⟨⟨X24.out.cell 3 rfl 0 _ rfl, X24.out.cell 3 rfl 1 _ rfl, X24.out.cell 3 rfl 2 _ rfl, X24.out.cell 3 rfl 3 _ rfl, X24.out.cell 3 rfl 4 _ rfl⟩, X24.out.cell 2 rfl 0 _ rfl, X24.out.cell 2 rfl 1 _ rfl, X24.out.cell 2 rfl 2 _ rfl, X24.out.cell 2 rfl 3 _ rfl, X24.out.cell 2 rfl 4 _ rfl⟩ (fun hS24 => ?_)
          clear hK1 K1 hS23
          (try simp only [Act.put, List.getElem_toArray, List.getElem_cons_succ, List.getElem_cons_zero, List.setIfInBounds_toArray, List.set_cons_zero, List.set_cons_succ])
          refine wpAnyH_ready (rs := [10]) (by kernel_rfl) (by simp) ?_
          refine AllReadyH.cons rfl (fun K1 hK1 => ?_) AllReadyH.nil
          have y0 := X24.out.cell 0 rfl 0 _ rfl
          have z0 := X24.out.frozen 0 rfl 0
          have y1 := X24.out.cell 0 rfl 1 _ rfl
          have z1 := X24.out.frozen 0 rfl 1
          have y2 := X24.out.cell 0 rfl 2 _ rfl
          have z2 := X24.out.frozen 0 rfl 2
          have y3 := X24.out.cell 0 rfl 3 _ rfl
          have z3 := X24.out.frozen 0 rfl 3
          have hset := Bx.set4 (X24.out.get 0 rfl) (.int .u64 (c0 : Nat)) (.bool c1) (.bool c2) (.int .i64 (c3 : Nat))
          have X25 : Hid (Sg w ((((w24.setCell ⟨p15, 0, none⟩ (.int .u64 (c0 : Nat))).setCell ⟨p15, 1, none⟩ (.bool c1)).setCell ⟨p15, 2, none⟩ (.bool c2)).setCell ⟨p15, 3, none⟩ (.int .i64 (c3 : Nat))) F rb M satp kind mode sum mxr [(p15, 36, #[.int .u64 (c0 : Nat), .bool c1, .bool c2, .int .i64 (c3 : Nat)]), (p16, 36, zr), (p14, 40, wc5 satp 1 1 true mxr), (p13, 40, wc5 satp 1 0 sum mxr), (p10, 40, wc5 satp 1 mode sum mxr), (p9, 40, wc5 satp 2 mode sum mxr)]) := X24.out.set 0 rfl hset.1.1 hset.2
          clear hset
          go_simp
          refine hK1.out _ ((((w24.setCell ⟨p15, 0, none⟩ (.int .u64 (c0 : Nat))).setCell ⟨p15, 1, none⟩ (.bool c1)).setCell ⟨p15, 2, none⟩ (.bool c2)).setCell ⟨p15, 3, none⟩ (.int .i64 (c3 : Nat))) ⟨⟨X25.out.cell 3 rfl 0 _ rfl, X25.out.cell 3 rfl 1 _ rfl, X25.out.cell 3 rfl 2 _ rfl, X25.out.cell 3 rfl 3 _ rfl, X25.out.cell 3 rfl 4 _ rfl⟩, X25.out.cell 2 rfl 0 _ rfl, X25.out.cell 2 rfl 1 _ rfl, X25.out.cell 2 rfl 2 _ rfl, X25.out.cell 2 rfl 3 _ rfl, X25.out.cell 2 rfl 4 _ rfl⟩ (fun hS25 => ?_)
          clear hK1 K1 hS24 y0 z0 y1 z1 y2 z2 y3 z3
          (try simp only [Act.put, List.getElem_toArray, List.getElem_cons_succ, List.getElem_cons_zero, List.setIfInBounds_toArray, List.set_cons_zero, List.set_cons_succ])
          generalize (((w24.setCell ⟨p15, 0, none⟩ (.int .u64 (c0 : Nat))).setCell ⟨p15, 1, none⟩ (.bool c1)).setCell ⟨p15, 2, none⟩ (.bool c2)).setCell ⟨p15, 3, none⟩ (.int .i64 (c3 : Nat)) = w25 at *
          refine wpAnyH_ready (rs := [11]) (by kernel_rfl) (by simp) ?_
          refine AllReadyH.cons rfl (fun K1 hK1 => ?_) AllReadyH.nil
          have y0 := X25.out.cell 1 rfl 0 _ rfl
          have z0 := X25.out.frozen 1 rfl 0
          have y1 := X25.out.cell 1 rfl 1 _ rfl
          have z1 := X25.out.frozen 1 rfl 1
          have y2 := X25.out.cell 1 rfl 2 _ rfl
          have z2 := X25.out.frozen 1 rfl 2
          have y3 := X25.out.cell 1 rfl 3 _ rfl
          have z3 := X25.out.frozen 1 rfl 3
          have hset := Bx.set4 (X25.out.get 1 rfl) (.int .u64 (d0 : Nat)) (.bool d1) (.bool d2) (.int .i64 (d3 : Nat))
          have X26 : Hid (Sg w ((((w25.setCell ⟨p16, 0, none⟩ (.int .u64 (d0 : Nat))).setCell ⟨p16, 1, none⟩ (.bool d1)).setCell ⟨p16, 2, none⟩ (.bool d2)).setCell ⟨p16, 3, none⟩ (.int .i64 (d3 : Nat))) F rb M satp kind mode sum mxr [(p15, 36, #[.int .u64 (c0 : Nat), .bool c1, .bool c2, .int .i64 (c3 : Nat)]), (p16, 36, #[.int .u64 (d0 : Nat), .bool d1, .bool d2, .int .i64 (d3 : Nat)]), (p14, 40, wc5 satp 1 1 true mxr), (p13, 40, wc5 satp 1 0 sum mxr), (p10, 40, wc5 satp 1 mode sum mxr), (p9, 40, wc5 satp 2 mode sum mxr)]) := X25.out.set 1 rfl hset.1.1 hset.2
          clear hset
          go_simp
          refine hK1.out _ ((((w25.setCell ⟨p16, 0, none⟩ (.int .u64 (d0 : Nat))).setCell ⟨p16, 1, none⟩ (.bool d1)).setCell ⟨p16, 2, none⟩ (.bool d2)).setCell ⟨p16, 3, none⟩ (.int .i64 (d3 : Nat))) ⟨⟨X26.out.cell 3 rfl 0 _ rfl, X26.out.cell 3 rfl 1 _ rfl, X26.out.cell 3 rfl 2 _ rfl, X26.out.cell 3 rfl 3 _ rfl, X26.out.cell 3 rfl 4 _ rfl⟩, X26.out.cell 2 rfl 0 _ rfl, X26.out.cell 2 rfl 1 _ rfl, X26.out.cell 2 rfl 2 _ rfl, X26.out.cell 2 rfl 3 _ rfl, X26.out.cell 2 rfl 4 _ rfl⟩ (fun hS26 => ?_)
          clear hK1 K1 hS25 y0 z0 y1 z1 y2 z2 y3 z3
          (try simp only [Act.put, List.getElem_toArray, List.getElem_cons_succ, List.getElem_cons_zero, List.setIfInBounds_toArray, List.set_cons_zero, List.set_cons_succ])
          generalize (((w25.setCell ⟨p16, 0, none⟩ (.int .u64 (d0 : Nat))).setCell ⟨p16, 1, none⟩ (.bool d1)).setCell ⟨p16, 2, none⟩ (.bool d2)).setCell ⟨p16, 3, none⟩ (.int .i64 (d3 : Nat)) = w26 at *
          refine wpAnyH_done (by kernel_rfl) ?_ _
          clear hS26
          go_wp2_with fail
          go_meet
          exact ⟨p15, p16, rfl, rfl, X26.out.swap⟩
      · go_simp
        have X22 : Hid (Sg w (w21.alloc (.cells zr 36)) F rb M satp kind mode sum mxr [(w21.heap.size, 36, zr), (p16, 36, zr), (p14, 40, wc5 satp 1 1 true mxr), (p13, 40, wc5 satp 1 0 sum mxr), (p10, 40, wc5 satp 1 mode sum mxr), (p9, 40, wc5 satp 2 mode sum mxr)]) := X21.out.alloc _ _
        refine hK1.out _ (w21.alloc (.cells zr 36)) ⟨⟨X22.out.cell 3 rfl 0 _ rfl, X22.out.cell 3 rfl 1 _ rfl, X22.out.cell 3 rfl 2 _ rfl, X22.out.cell 3 rfl 3 _ rfl, X22.out.cell 3 rfl 4 _ rfl⟩, X22.out.cell 2 rfl 0 _ rfl, X22.out.cell 2 rfl 1 _ rfl, X22.out.cell 2 rfl 2 _ rfl, X22.out.cell 2 rfl 3 _ rfl, X22.out.cell 2 rfl 4 _ rfl⟩ (fun hS22 => ?_)
        clear hK1 K1 hS21
        (try simp only [Act.put, List.getElem_toArray, List.getElem_cons_succ, List.getElem_cons_zero, List.setIfInBounds_toArray, List.set_cons_zero, List.set_cons_succ])
        generalize w21.heap.size = p15 at *
        generalize w21.alloc (.cells zr 36) = w22 at *
        refine wpAnyH_ready (rs := [3]) (by kernel_rfl) (by simp) ?_
        refine AllReadyH.cons rfl (fun K1 hK1 => ?_) AllReadyH.nil
        go_simp
        refine (cc _ X22.out.1.2).mono ?_
        rintro e w23 ⟨rfl, hb⟩
        have X23 : Hid (Sg w w23 F rb M satp kind mode sum mxr [(p15, 36, zr), (p16, 36, zr), (p14, 40, wc5 satp 1 1 true mxr), (p13, 40, wc5 satp 1 0 sum mxr), (p10, 40, wc5 satp 1 mode sum mxr), (p9, 40, wc5 satp 2 mode sum mxr)]) := X22.out.step hb
        clear hb
        refine hK1.out _ _ ⟨⟨X23.out.cell 3 rfl 0 _ rfl, X23.out.cell 3 rfl 1 _ rfl, X23.out.cell 3 rfl 2 _ rfl, X23.out.cell 3 rfl 3 _ rfl, X23.out.cell 3 rfl 4 _ rfl⟩, X23.out.cell 2 rfl 0 _ rfl, X23.out.cell 2 rfl 1 _ rfl, X23.out.cell 2 rfl 2 _ rfl, X23.out.cell 2 rfl 3 _ rfl, X23.out.cell 2 rfl 4 _ rfl⟩ (fun hS23 => ?_)
        clear hK1 K1 hS22
        (try simp only [Act.put, List.getElem_toArray, List.getElem_cons_succ, List.getElem_cons_zero, List.setIfInBounds_toArray, List.set_cons_zero, List.set_cons_succ])
        refine wpAnyH_ready (rs := [7]) (by kernel_rfl) (by simp) ?_
        refine AllReadyH.cons rfl (fun K1 hK1 => ?_) AllReadyH.nil
        go_simp
        refine (cd _ X23.out.1.2).mono ?_
        rintro e w24 ⟨rfl, hb⟩
        have X24 : Hid (Sg w w24 F rb M satp kind mode sum mxr [(p15, 36, zr), (p16, 36, zr), (p14, 40, wc5 satp 1 1 true mxr), (p13, 40, wc5 satp 1 0 sum mxr), (p10, 40, wc5 satp 1 mode sum mxr), (p9, 40, wc5 satp 2 mode sum mxr)]) := X23.out.step hb
        clear hb
        refine hK1.out _ _ ⟨⟨X24.out.cell 3 rfl 0 _ rfl, X24.out.cell 3 rfl 1 _ rfl, X24.out.cell 3 rfl 2 _ rfl, X24.out.cell 3 rfl 3 _ rfl, X24.out.cell 3 rfl 4 _ rfl⟩, X24.out.cell 2 rfl 0 _ rfl, X24.out.cell 2 rfl 1 _ rfl, X24.out.cell 2 rfl 2 _ rfl, X24.out.cell 2 rfl 3 _ rfl, X24.out.cell 2 rfl 4 _ rfl⟩ (fun hS24 => ?_)
        clear hK1 K1 hS23
        (try simp only [Act.put, List.getElem_toArray, List.getElem_cons_succ, List.getElem_cons_zero, List.setIfInBounds_toArray, List.set_cons_zero, List.set_cons_succ])
        refine wpAnyH_ready (rs := [10]) (by kernel_rfl) (by simp) ?_
        refine AllReadyH.cons rfl (fun K1 hK1 => ?_) AllReadyH.nil
        have y0 := X24.out.cell 0 rfl 0 _ rfl
        have z0 := X24.out.frozen 0 rfl 0
        have y1 := X24.out.cell 0 rfl 1 _ rfl
        have z1 := X24.out.frozen 0 rfl 1
        have y2 := X24.out.cell 0 rfl 2 _ rfl
        have z2 := X24.out.frozen 0 rfl 2
        have y3 := X24.out.cell 0 rfl 3 _ rfl
        have z3 := X24.out.frozen 0 rfl 3
        have hset := Bx.set4 (X24.out.get 0 rfl) (.int .u64 (c0 : Nat)) (.bool c1) (.bool c2) (.int .i64 (c3 : Nat))
        have X25 : Hid (Sg w ((((w24.setCell ⟨p15, 0, none⟩ (.int .u64 (c0 : Nat))).setCell ⟨p15, 1, none⟩ (.bool c1)).setCell ⟨p15, 2, none⟩ (.bool c2)).setCell ⟨p15, 3, none⟩ (.int .i64 (c3 : Nat))) F rb M satp kind mode sum mxr [(p15, 36, #[.int .u64 (c0 : Nat), .bool c1, .bool c2, .int .i64 (c3 : Nat)]), (p16, 36, zr), (p14, 40, wc5 satp 1 1 true mxr), (p13, 40, wc5 satp 1 0 sum mxr), (p10, 40, wc5 satp 1 mode sum mxr), (p9, 40, wc5 satp 2 mode sum mxr)]) := X24.out.set 0 rfl hset.1.1 hset.2
        clear hset
        go_simp
        refine hK1.out _ ((((w24.setCell ⟨p15, 0, none⟩ (.int .u64 (c0 : Nat))).setCell ⟨p15, 1, none⟩ (.bool c1)).setCell ⟨p15, 2, none⟩ (.bool c2)).setCell ⟨p15, 3, none⟩ (.int .i64 (c3 : Nat))) ⟨⟨X25.out.cell 3 rfl 0 _ rfl, X25.out.cell 3 rfl 1 _ rfl, X25.out.cell 3 rfl 2 _ rfl, X25.out.cell 3 rfl 3 _ rfl, X25.out.cell 3 rfl 4 _ rfl⟩, X25.out.cell 2 rfl 0 _ rfl, X25.out.cell 2 rfl 1 _ rfl, X25.out.cell 2 rfl 2 _ rfl, X25.out.cell 2 rfl 3 _ rfl, X25.out.cell 2 rfl 4 _ rfl⟩ (fun hS25 => ?_)
        clear hK1 K1 hS24 y0 z0 y1 z1 y2 z2 y3 z3
        (try simp only [Act.put, List.getElem_toArray, List.getElem_cons_succ, List.getElem_cons_zero, List.setIfInBounds_toArray, List.set_cons_zero, List.set_cons_succ])
        generalize (((w24.setCell ⟨p15, 0, none⟩ (.int .u64 (c0 : Nat))).setCell ⟨p15, 1, none⟩ (.bool c1)).setCell ⟨p15, 2, none⟩ (.bool c2)).setCell ⟨p15, 3, none⟩ (.int .i64 (c3 : Nat)) = w25 at *
        refine wpAnyH_ready (rs := [11]) (by kernel_rfl) (by simp) ?_
        refine AllReadyH.cons rfl (fun K1 hK1 => ?_) AllReadyH.nil
        have y0 := X25.out.cell 1 rfl 0 _ rfl
        have z0 := X25.out.frozen 1 rfl 0
        have y1 := X25.out.cell 1 rfl 1 _ rfl
        have z1 := X25.out.frozen 1 rfl 1
        have y2 := X25.out.cell 1 rfl 2 _ rfl
        have z2 := X25.out.frozen 1 rfl 2
        have y3 := X25.out.cell 1 rfl 3 _ rfl
        have z3 := X25.out.frozen 1 rfl 3
        have hset := Bx.set4 (X25.out.get 1 rfl) (.int .u64 (d0 : Nat)) (.bool d1) (.bool d2) (.int .i64 (d3 : Nat))
        have X26 : Hid (Sg w ((((w25.setCell ⟨p16, 0, none⟩ (.int .u64 (d0 : Nat))).setCell ⟨p16, 1, none⟩ (.bool d1)).setCell ⟨p16, 2, none⟩ (.bool d2)).setCell ⟨p16, 3, none⟩ (.int .i64 (d3 : Nat))) F rb M satp kind mode sum mxr [(p15, 36, #[.int .u64 (c0 : Nat), .bool c1, .bool c2, .int .i64 (c3 : Nat)]), (p16, 36, #[.int .u64 (d0 : Nat), .bool d1, .bool d2, .int .i64 (d3 : Nat)]), (p14, 40, wc5 satp 1 1 true mxr), (p13, 40, wc5 satp 1 0 sum mxr), (p10, 40, wc5 satp 1 mode sum mxr), (p9, 40, wc5 satp 2 mode sum mxr)]) := X25.out.set 1 rfl hset.1.1 hset.2
        clear hset
        go_simp
        refine hK1.out _ ((((w25.setCell ⟨p16, 0, none⟩ (.int .u64 (d0 : Nat))).setCell ⟨p16, 1, none⟩ (.bool d1)).setCell ⟨p16, 2, none⟩ (.bool d2)).setCell ⟨p16, 3, none⟩ (.int .i64 (d3 : Nat))) ⟨⟨X26.out.cell 3 rfl 0 _ rfl, X26.out.cell 3 rfl 1 _ rfl, X26.out.cell 3 rfl 2 _ rfl, X26.out.cell 3 rfl 3 _ rfl, X26.out.cell 3 rfl 4 _ rfl⟩, X26.out.cell 2 rfl 0 _ rfl, X26.out.cell 2 rfl 1 _ rfl, X26.out.cell 2 rfl 2 _ rfl, X26.out.cell 2 rfl 3 _ rfl, X26.out.cell 2 rfl 4 _ rfl⟩ (fun hS26 => ?_)
        clear hK1 K1 hS25 y0 z0 y1 z1 y2 z2 y3 z3
        (try simp only [Act.put, List.getElem_toArray, List.getElem_cons_succ, List.getElem_cons_zero, List.setIfInBounds_toArray, List.set_cons_zero, List.set_cons_succ])
        generalize (((w25.setCell ⟨p16, 0, none⟩ (.int .u64 (d0 : Nat))).setCell ⟨p16, 1, none⟩ (.bool d1)).setCell ⟨p16, 2, none⟩ (.bool d2)).setCell ⟨p16, 3, none⟩ (.int .i64 (d3 : Nat)) = w26 at *
        refine wpAnyH_done (by kernel_rfl) ?_ _
        clear hS26
        go_wp2_with fail
        go_meet
        exact ⟨p15, p16, rfl, rfl, X26.out.swap⟩
  case rest =>
  obtain ⟨p15, p16, rfl, rfl, ht⟩ := hcut
  have X13 : Hid (Sg w wc F rb M satp kind mode sum mxr [(p16, 36, #[.int .u64 (d0 : Nat), .bool d1, .bool d2, .int .i64 (d3 : Nat)]), (p15, 36, #[.int .u64 (c0 : Nat), .bool c1, .bool c2, .int .i64 (c3 : Nat)]), (p14, 40, wc5 satp 1 1 true mxr), (p13, 40, wc5 satp 1 0 sum mxr), (p10, 40, wc5 satp 1 mode sum mxr), (p9, 40, wc5 satp 2 mode sum mxr)]) := ht
  clear ht X12
  clear cc cd
  have t0 := X13.out.cell 1 rfl 0 _ rfl
  have t1 := X13.out.cell 1 rfl 1 _ rfl
  have e0 := X13.out.cell 0 rfl 0 _ rfl
  have e1 := X13.out.cell 0 rfl 1 _ rfl
  cases c1
  · have hb1 := (HCD.out rfl).2
    have hb0 : (c0 : Int) = (d0 : Int) := by have := (HCD.out rfl).1; omega
    rw [hb1] at e1
    rw [← hb0] at e0
    clear hb0 hb1
    have g1 : ((c0 : Int) == (c0 : Int)) = true := by simp
    go_wp2_with fail
    go_ret
    exact ⟨by simp, X13.out.1.1.2⟩
  · go_wp2_with fail
    go_ret
    exact ⟨by simp, X13.out.1.1.2⟩
end Go.Proofs.Ytalgidnmmghejaa
