/- The document's Desc; RingDescs. -/
import Derived.Test.YtcgjfklglckjcaaRi
import Derived.Test.YtcgjfklglckjcaaRg
import Derived.Laws.StructEq
namespace Go.Proofs.Ytcgjfklglckjcaa
open Go.RowKit Go.Maps
set_option linter.unusedVariables false
set_option linter.unusedSimpArgs false
set_option maxRecDepth 100000
theorem rdesc_no (va : Option Addr) (n vc : Nat) (t : Nat) (i : Int) (hi : i < 0 ∨ 255 < i) (w : World) : Calls Try.prog 60 #[.agg #[.int .u64 8192, .slice va n vc], .int .u64 (t : Nat), .int .i64 i] w fun e w' => e = .returned (.tuple #[.agg #[.int .u64 0, .int .u32 0, .int .u16 0, .int .u16 0], .bool false]) ∧ Below w.heap.size w w' := by
  rcases hi with hi | hi
  · go_enter Try.func60, Try.ntmps60
    go_wp2_with fail
    refine bodyPost_ret (v := .tuple #[.agg #[.int .u64 0, .int .u32 0, .int .u16 0, .int .u16 0], .bool false]) (by simp [results, Try.results60, go_sem]) rfl ⟨rfl, ?_⟩
    exact two_boxes w _ _
  · have h0 : ¬ i < 0 := by omega
    go_enter Try.func60, Try.ntmps60
    go_wp2_with fail
    refine bodyPost_ret (v := .tuple #[.agg #[.int .u64 0, .int .u32 0, .int .u16 0, .int .u16 0], .bool false]) (by simp [results, Try.results60, go_sem]) rfl ⟨rfl, ?_⟩
    exact two_boxes w _ _
theorem rdesc_out (va : Option Addr) (n vc : Nat) (t x k : Nat) (hk : k ≤ 255) (hx : x = (t + 16 * k) % 18446744073709551616) (hin : inB x 16 2147483648 8192 = false) (w : World) : Calls Try.prog 60 #[.agg #[.int .u64 8192, .slice va n vc], .int .u64 (t : Nat), .int .i64 (k : Int)] w fun e w' => e = .returned (.tuple #[.agg #[.int .u64 0, .int .u32 0, .int .u16 0, .int .u16 0], .bool false]) ∧ Below w.heap.size w w' := by
  have h1 : ¬ (255 : Int) < (k : Int) := by omega
  have h2 : ¬ (k : Int) < 0 := by omega
  have h3 : IntKind.u64.wrap (k : Int) = (k : Int) := by rw [wrap_u64]; omega
  have h4 : IntKind.u64.wrap (16 * (k : Int)) = 16 * (k : Int) := by rw [wrap_u64]; omega
  have h5 : IntKind.u64.wrap ((t : Int) + 16 * (k : Int)) = (x : Int) := by rw [wrap_u64]; omega
  have HX : Hid (x < 18446744073709551616 ∧ inB x 16 2147483648 8192 = false) := ⟨by omega, hin⟩
  have B0 : Hid (((w.alloc (.cells #[.int .u64 8192, .slice va n vc] 32)).alloc (.cells #[.int .u64 0, .int .u32 0, .int .u16 0, .int .u16 0] 92)).heap[w.heap.size + 1]? = some (.cells #[.int .u64 0, .int .u32 0, .int .u16 0, .int .u16 0] 92 (0, 0)) ∧ Below w.heap.size w ((w.alloc (.cells #[.int .u64 8192, .slice va n vc] 32)).alloc (.cells #[.int .u64 0, .int .u32 0, .int .u16 0, .int .u16 0] 92))) := ⟨(two_in w _ _).2, two_boxes w _ _⟩
  clear hx hin
  go_enter Try.func60, Try.ntmps60
  go_wp2_with fail
  refine (rhas_any 8192 x 16 _ (by omega) HX.out.1 (by omega) _).mono ?_
  rintro e w1 ⟨rfl, hb1⟩
  have X1 : Hid (w1.heap[w.heap.size + 1]? = some (.cells #[.int .u64 0, .int .u32 0, .int .u16 0, .int .u16 0] 92 (0, 0)) ∧ Below w.heap.size w w1) := ⟨below_box B0.out.1 hb1, below_to B0.out.2 hb1⟩
  obtain ⟨c0, c1, c2, c3⟩ := box4_facts X1.out.1
  have z0 := frozenOf X1.out.1 0
  have z1 := frozenOf X1.out.1 1
  have z2 := frozenOf X1.out.1 2
  have z3 := frozenOf X1.out.1 3
  have hi := HX.out.2
  have hi2 : inB (x : Int) ((16 : Nat) : Int) 2147483648 ((8192 : Nat) : Int) = false := hi
  rw [hi2]
  clear hb1 hi hi2 B0
  go_wp2_with fail
  refine bodyPost_ret (v := .tuple #[.agg #[.int .u64 0, .int .u32 0, .int .u16 0, .int .u16 0], .bool false]) (by simp [results, Try.results60, go_sem, c0, c1, c2, c3]) rfl ⟨rfl, ?_⟩
  have hle : w.heap.size ≤ w.heap.size + 1 := by omega
  exact (((X1.out.2.setCell (p := ⟨w.heap.size + 1, 0, none⟩) hle _).setCell (p := ⟨w.heap.size + 1, 1, none⟩) hle _).setCell (p := ⟨w.heap.size + 1, 2, none⟩) hle _).setCell (p := ⟨w.heap.size + 1, 3, none⟩) hle _
set_option maxHeartbeats 2000000 in
theorem rdesc_in {F : Nat → Prop} {w : World} {n vc : Nat} {va : Option Addr} {bs : Nat → Nat × Nat} {M : Nat → Nat} (h : RefIn F w (.slice va n vc) n bs) (hM : ∀ a, rget bs n a = M a) (hle : ∀ a, M a ≤ 255) (hn : n ≤ 1000000) (t x k : Nat) (hk : k ≤ 255) (hx : x = (t + 16 * k) % 18446744073709551616) (hin : inB x 16 2147483648 8192 = true) (v0 v1 v2 v3 : Nat) (hd : DescAt M x v0 v1 v2 v3) : Calls Try.prog 60 #[.agg #[.int .u64 8192, .slice va n vc], .int .u64 (t : Nat), .int .i64 (k : Int)] w fun e w' => e = .returned (.tuple #[.agg #[.int .u64 (v0 : Int), .int .u32 (v1 : Int), .int .u16 (v2 : Int), .int .u16 (v3 : Int)], .bool true]) ∧ Below w.heap.size w w' := by
  have h1 : ¬ (255 : Int) < (k : Int) := by omega
  have h2 : ¬ (k : Int) < 0 := by omega
  have h3 : IntKind.u64.wrap (k : Int) = (k : Int) := by rw [wrap_u64]; omega
  have h4 : IntKind.u64.wrap (16 * (k : Int)) = 16 * (k : Int) := by rw [wrap_u64]; omega
  have h5 : IntKind.u64.wrap ((t : Int) + 16 * (k : Int)) = (x : Int) := by rw [wrap_u64]; omega
  have hb : (2147483648 : Int) ≤ x ∧ (x : Int) + 16 ≤ 2147483648 + 8192 := by simpa [inB] using hin
  obtain ⟨x8, hx8⟩ : ∃ y : Nat, y = x + 8 := ⟨_, rfl⟩
  obtain ⟨x12, hx12⟩ : ∃ y : Nat, y = x + 12 := ⟨_, rfl⟩
  obtain ⟨x14, hx14⟩ : ∃ y : Nat, y = x + 14 := ⟨_, rfl⟩
  have q8 : IntKind.u64.wrap ((x : Int) + 8) = (x8 : Int) := by rw [wrap_u64]; omega
  have q12 : IntKind.u64.wrap ((x : Int) + 12) = (x12 : Int) := by rw [wrap_u64]; omega
  have q14 : IntKind.u64.wrap ((x : Int) + 14) = (x14 : Int) := by rw [wrap_u64]; omega
  have HX : Hid (x < 18446744073709551616 ∧ inB x 16 2147483648 8192 = true ∧ x8 < 18446744073709551616 ∧ x12 < 18446744073709551616 ∧ x14 < 18446744073709551616) := ⟨by omega, hin, by omega, by omega, by omega⟩
  have hlt := hd.lt hle
  have i0 : inB (x : Int) ((8 : Nat) : Int) 2147483648 ((8192 : Nat) : Int) = true := by simp only [inB, decide_eq_true_iff]; omega
  have i1 : inB (x8 : Int) ((4 : Nat) : Int) 2147483648 ((8192 : Nat) : Int) = true := by simp only [inB, decide_eq_true_iff]; omega
  have i2 : inB (x12 : Int) ((2 : Nat) : Int) 2147483648 ((8192 : Nat) : Int) = true := by simp only [inB, decide_eq_true_iff]; omega
  have i3 : inB (x14 : Int) ((2 : Nat) : Int) 2147483648 ((8192 : Nat) : Int) = true := by simp only [inB, decide_eq_true_iff]; omega
  have HV : Hid (wordN M x 8 8192 = v0 ∧ wordN M x8 4 8192 = v1 ∧ wordN M x12 2 8192 = v2 ∧ wordN M x14 2 8192 = v3) := by
    refine ⟨?_, ?_, ?_, ?_⟩
    · rw [wordN, if_pos i0]; exact hd.e0
    · rw [wordN, if_pos i1, ← hd.e1]; congr 1; funext i; congr 1; omega
    · rw [wordN, if_pos i2, ← hd.e2]; congr 1; funext i; congr 1; omega
    · rw [wordN, if_pos i3, ← hd.e3]; congr 1; funext i; congr 1; omega
  have u1 : IntKind.u32.wrap (v1 : Int) = (v1 : Int) := by simp [IntKind.wrap, IntKind.signed, IntKind.bits]; omega
  have u2 : IntKind.u16.wrap (v2 : Int) = (v2 : Int) := by rw [wrap16]; omega
  have u3 : IntKind.u16.wrap (v3 : Int) = (v3 : Int) := by rw [wrap16]; omega
  have HR : Hid (∀ V, Below w.heap.size w V → ∀ y L : Nat, y < 18446744073709551616 → L ≤ 8 → Calls Try.prog 71 #[.agg #[.int .u64 8192, .slice va n vc], .int .u64 (y : Int), .int .i64 (L : Int)] V fun e w' => e = .returned (.int .u64 (wordN M y L 8192 : Nat)) ∧ Below V.heap.size V w') := fun V hV y L hy hL => rword_any F V 8192 y L n va vc bs M (h.below hV) hM hle hn (by omega) hy hL
  have B0 : Hid (((w.alloc (.cells #[.int .u64 8192, .slice va n vc] 32)).alloc (.cells #[.int .u64 0, .int .u32 0, .int .u16 0, .int .u16 0] 92)).heap[w.heap.size]? = some (.cells #[.int .u64 8192, .slice va n vc] 32 (0, 0)) ∧ ((w.alloc (.cells #[.int .u64 8192, .slice va n vc] 32)).alloc (.cells #[.int .u64 0, .int .u32 0, .int .u16 0, .int .u16 0] 92)).heap[w.heap.size + 1]? = some (.cells #[.int .u64 0, .int .u32 0, .int .u16 0, .int .u16 0] 92 (0, 0)) ∧ Below w.heap.size w ((w.alloc (.cells #[.int .u64 8192, .slice va n vc] 32)).alloc (.cells #[.int .u64 0, .int .u32 0, .int .u16 0, .int .u16 0] 92))) := ⟨(two_in w _ _).1, (two_in w _ _).2, two_boxes w _ _⟩
  clear hx hin hlt hd h hM hle hb hx8 hx12 hx14 i0 i1 i2 i3
  go_enter Try.func60, Try.ntmps60
  go_wp2_with fail
  refine (rhas_any 8192 x 16 _ (by omega) HX.out.1 (by omega) _).mono ?_
  rintro e w1 ⟨rfl, hb1⟩
  have X1 : Hid (w1.heap[w.heap.size]? = some (.cells #[.int .u64 8192, .slice va n vc] 32 (0, 0)) ∧ w1.heap[w.heap.size + 1]? = some (.cells #[.int .u64 0, .int .u32 0, .int .u16 0, .int .u16 0] 92 (0, 0)) ∧ Below w.heap.size w w1) := ⟨below_box B0.out.1 hb1, below_box B0.out.2.1 hb1, below_to B0.out.2.2 hb1⟩
  have hi2 : inB (x : Int) ((16 : Nat) : Int) 2147483648 ((8192 : Nat) : Int) = true := HX.out.2.1
  rw [hi2]
  clear hb1 hi2 B0
  go_upto_region 4 with fail
  have X2 : Hid (w1.drew.heap[w.heap.size]? = some (.cells #[.int .u64 8192, .slice va n vc] 32 (0, 0)) ∧ w1.drew.heap[w.heap.size + 1]? = some (.cells #[.int .u64 0, .int .u32 0, .int .u16 0, .int .u16 0] 92 (0, 0)) ∧ Below w.heap.size w w1.drew) := ⟨X1.out.1, X1.out.2.1, X1.out.2.2.drew⟩
  clear X1
  refine wp_region_held_drew (S := fun Z => Z.cell? ⟨w.heap.size, 0, none⟩ = some (.int .u64 8192) ∧ Z.cell? ⟨w.heap.size, 1, none⟩ = some (.slice va n vc)) (by kernel_rfl) ⟨cellOf X2.out.1 0 _ rfl, cellOf X2.out.1 1 _ rfl⟩ ?_
  intro hS
  generalize w1.drew = w2 at *
  refine wpAnyH_take (i := 0) (v := ?_) rfl (by kernel_rfl) (by kernel_rfl) (by kernel_rfl) (fun _ _ _ h => h) (Or.inl ⟨by kernel_rfl, ?_⟩) hS ?_
  rotate_left
  · intro w hSw; (try dsimp only at hSw); go_simp; try (with_reducible rfl)
  (try simp only [Act.put, List.getElem_toArray, List.getElem_cons_succ, List.getElem_cons_zero, List.setIfInBounds_toArray, List.set_cons_zero, List.set_cons_succ])
  refine wpAnyH_take (i := 1) (v := ?_) rfl (by kernel_rfl) (by kernel_rfl) (by kernel_rfl) (fun _ _ _ h => h) (Or.inl ⟨by kernel_rfl, ?_⟩) hS ?_
  rotate_left
  · intro w hSw; (try dsimp only at hSw); go_simp; try (with_reducible rfl)
  (try simp only [Act.put, List.getElem_toArray, List.getElem_cons_succ, List.getElem_cons_zero, List.setIfInBounds_toArray, List.set_cons_zero, List.set_cons_succ])
  refine wpAnyH_take (i := 3) (v := ?_) rfl (by kernel_rfl) (by kernel_rfl) (by kernel_rfl) (fun _ _ _ h => h) (Or.inl ⟨by kernel_rfl, ?_⟩) hS ?_
  rotate_left
  · intro w hSw; (try dsimp only at hSw); go_simp; try (with_reducible rfl)
  (try simp only [Act.put, List.getElem_toArray, List.getElem_cons_succ, List.getElem_cons_zero, List.setIfInBounds_toArray, List.set_cons_zero, List.set_cons_succ])
  refine wpAnyH_take (i := 4) (v := ?_) rfl (by kernel_rfl) (by kernel_rfl) (by kernel_rfl) (fun _ _ _ h => h) (Or.inl ⟨by kernel_rfl, ?_⟩) hS ?_
  rotate_left
  · intro w hSw; (try dsimp only at hSw); go_simp; try (with_reducible rfl)
  (try simp only [Act.put, List.getElem_toArray, List.getElem_cons_succ, List.getElem_cons_zero, List.setIfInBounds_toArray, List.set_cons_zero, List.set_cons_succ])
  refine wpAnyH_take (i := 5) (v := ?_) rfl (by kernel_rfl) (by kernel_rfl) (by kernel_rfl) (fun _ _ _ h => h) (Or.inl ⟨by kernel_rfl, ?_⟩) hS ?_
  rotate_left
  · intro w hSw; (try dsimp only at hSw); go_simp; try (with_reducible rfl)
  (try simp only [Act.put, List.getElem_toArray, List.getElem_cons_succ, List.getElem_cons_zero, List.setIfInBounds_toArray, List.set_cons_zero, List.set_cons_succ])
  refine wpAnyH_take (i := 8) (v := ?_) rfl (by kernel_rfl) (by kernel_rfl) (by kernel_rfl) (fun _ _ _ h => h) (Or.inl ⟨by kernel_rfl, ?_⟩) hS ?_
  rotate_left
  · intro w hSw; (try dsimp only at hSw); go_simp; try (with_reducible rfl)
  (try simp only [Act.put, List.getElem_toArray, List.getElem_cons_succ, List.getElem_cons_zero, List.setIfInBounds_toArray, List.set_cons_zero, List.set_cons_succ])
  refine wpAnyH_take (i := 9) (v := ?_) rfl (by kernel_rfl) (by kernel_rfl) (by kernel_rfl) (fun _ _ _ h => h) (Or.inl ⟨by kernel_rfl, ?_⟩) hS ?_
  rotate_left
  · intro w hSw; (try dsimp only at hSw); go_simp; try (with_reducible rfl)
  (try simp only [Act.put, List.getElem_toArray, List.getElem_cons_succ, List.getElem_cons_zero, List.setIfInBounds_toArray, List.set_cons_zero, List.set_cons_succ])
  refine wpAnyH_take (i := 10) (v := ?_) rfl (by kernel_rfl) (by kernel_rfl) (by kernel_rfl) (fun _ _ _ h => h) (Or.inl ⟨by kernel_rfl, ?_⟩) hS ?_
  rotate_left
  · intro w hSw; (try dsimp only at hSw); go_simp; try (with_reducible rfl)
  (try simp only [Act.put, List.getElem_toArray, List.getElem_cons_succ, List.getElem_cons_zero, List.setIfInBounds_toArray, List.set_cons_zero, List.set_cons_succ])
  refine wpAnyH_take (i := 13) (v := ?_) rfl (by kernel_rfl) (by kernel_rfl) (by kernel_rfl) (fun _ _ _ h => h) (Or.inl ⟨by kernel_rfl, ?_⟩) hS ?_
  rotate_left
  · intro w hSw; (try dsimp only at hSw); go_simp; try (with_reducible rfl)
  (try simp only [Act.put, List.getElem_toArray, List.getElem_cons_succ, List.getElem_cons_zero, List.setIfInBounds_toArray, List.set_cons_zero, List.set_cons_succ])
  refine wpAnyH_take (i := 14) (v := ?_) rfl (by kernel_rfl) (by kernel_rfl) (by kernel_rfl) (fun _ _ _ h => h) (Or.inl ⟨by kernel_rfl, ?_⟩) hS ?_
  rotate_left
  · intro w hSw; (try dsimp only at hSw); go_simp; try (with_reducible rfl)
  (try simp only [Act.put, List.getElem_toArray, List.getElem_cons_succ, List.getElem_cons_zero, List.setIfInBounds_toArray, List.set_cons_zero, List.set_cons_succ])
  refine wpAnyH_take (i := 15) (v := ?_) rfl (by kernel_rfl) (by kernel_rfl) (by kernel_rfl) (fun _ _ _ h => h) (Or.inl ⟨by kernel_rfl, ?_⟩) hS ?_
  rotate_left
  · intro w hSw; (try dsimp only at hSw); go_simp; try (with_reducible rfl)
  (try simp only [Act.put, List.getElem_toArray, List.getElem_cons_succ, List.getElem_cons_zero, List.setIfInBounds_toArray, List.set_cons_zero, List.set_cons_succ])
  refine wpAnyH_ready (rs := [2]) (by kernel_rfl) (by simp) ?_
  refine AllReadyH.cons rfl (fun K1 hK1 => ?_) AllReadyH.nil
  go_simp
  refine (HR.out _ X2.out.2.2 x 8 HX.out.1 (by decide)).mono ?_
  rintro e w10 ⟨rfl, hb⟩
  rw [HV.out.1]
  have X10 : Hid (w10.heap[w.heap.size]? = some (.cells #[.int .u64 8192, .slice va n vc] 32 (0, 0)) ∧ w10.heap[w.heap.size + 1]? = some (.cells #[.int .u64 0, .int .u32 0, .int .u16 0, .int .u16 0] 92 (0, 0)) ∧ Below w.heap.size w w10) := ⟨below_box X2.out.1 hb, below_box X2.out.2.1 hb, below_to X2.out.2.2 hb⟩
  clear hb X2
  refine hK1.out _ _ ⟨cellOf X10.out.1 0 _ rfl, cellOf X10.out.1 1 _ rfl⟩ (fun hS10 => ?_)
  clear hK1 K1 hS
  (try simp only [Act.put, List.getElem_toArray, List.getElem_cons_succ, List.getElem_cons_zero, List.setIfInBounds_toArray, List.set_cons_zero, List.set_cons_succ])
  refine wpAnyH_ready (rs := [6]) (by kernel_rfl) (by simp) ?_
  refine AllReadyH.cons rfl (fun K1 hK1 => ?_) AllReadyH.nil
  go_simp
  refine (HR.out _ X10.out.2.2 x8 4 HX.out.2.2.1 (by decide)).mono ?_
  rintro e w11 ⟨rfl, hb⟩
  rw [HV.out.2.1]
  have X11 : Hid (w11.heap[w.heap.size]? = some (.cells #[.int .u64 8192, .slice va n vc] 32 (0, 0)) ∧ w11.heap[w.heap.size + 1]? = some (.cells #[.int .u64 0, .int .u32 0, .int .u16 0, .int .u16 0] 92 (0, 0)) ∧ Below w.heap.size w w11) := ⟨below_box X10.out.1 hb, below_box X10.out.2.1 hb, below_to X10.out.2.2 hb⟩
  clear hb X10
  refine hK1.out _ _ ⟨cellOf X11.out.1 0 _ rfl, cellOf X11.out.1 1 _ rfl⟩ (fun hS11 => ?_)
  clear hK1 K1 hS10
  (try simp only [Act.put, List.getElem_toArray, List.getElem_cons_succ, List.getElem_cons_zero, List.setIfInBounds_toArray, List.set_cons_zero, List.set_cons_succ])
  refine wpAnyH_take (i := 7) (v := ?_) rfl (by kernel_rfl) (by kernel_rfl) (by kernel_rfl) (fun _ _ _ h => h) (Or.inl ⟨by kernel_rfl, ?_⟩) hS11 ?_
  rotate_left
  · intro w hSw; (try dsimp only at hSw); go_simp; try (with_reducible rfl)
  (try simp only [Act.put, List.getElem_toArray, List.getElem_cons_succ, List.getElem_cons_zero, List.setIfInBounds_toArray, List.set_cons_zero, List.set_cons_succ])
  refine wpAnyH_ready (rs := [11]) (by kernel_rfl) (by simp) ?_
  refine AllReadyH.cons rfl (fun K1 hK1 => ?_) AllReadyH.nil
  go_simp
  refine (HR.out _ X11.out.2.2 x12 2 HX.out.2.2.2.1 (by decide)).mono ?_
  rintro e w12 ⟨rfl, hb⟩
  rw [HV.out.2.2.1]
  have X12 : Hid (w12.heap[w.heap.size]? = some (.cells #[.int .u64 8192, .slice va n vc] 32 (0, 0)) ∧ w12.heap[w.heap.size + 1]? = some (.cells #[.int .u64 0, .int .u32 0, .int .u16 0, .int .u16 0] 92 (0, 0)) ∧ Below w.heap.size w w12) := ⟨below_box X11.out.1 hb, below_box X11.out.2.1 hb, below_to X11.out.2.2 hb⟩
  clear hb X11
  refine hK1.out _ _ ⟨cellOf X12.out.1 0 _ rfl, cellOf X12.out.1 1 _ rfl⟩ (fun hS12 => ?_)
  clear hK1 K1 hS11
  (try simp only [Act.put, List.getElem_toArray, List.getElem_cons_succ, List.getElem_cons_zero, List.setIfInBounds_toArray, List.set_cons_zero, List.set_cons_succ])
  refine wpAnyH_take (i := 12) (v := ?_) rfl (by kernel_rfl) (by kernel_rfl) (by kernel_rfl) (fun _ _ _ h => h) (Or.inl ⟨by kernel_rfl, ?_⟩) hS12 ?_
  rotate_left
  · intro w hSw; (try dsimp only at hSw); go_simp; try (with_reducible rfl)
  (try simp only [Act.put, List.getElem_toArray, List.getElem_cons_succ, List.getElem_cons_zero, List.setIfInBounds_toArray, List.set_cons_zero, List.set_cons_succ])
  refine wpAnyH_ready (rs := [16]) (by kernel_rfl) (by simp) ?_
  refine AllReadyH.cons rfl (fun K1 hK1 => ?_) AllReadyH.nil
  go_simp
  refine (HR.out _ X12.out.2.2 x14 2 HX.out.2.2.2.2 (by decide)).mono ?_
  rintro e w13 ⟨rfl, hb⟩
  rw [HV.out.2.2.2]
  have X13 : Hid (w13.heap[w.heap.size]? = some (.cells #[.int .u64 8192, .slice va n vc] 32 (0, 0)) ∧ w13.heap[w.heap.size + 1]? = some (.cells #[.int .u64 0, .int .u32 0, .int .u16 0, .int .u16 0] 92 (0, 0)) ∧ Below w.heap.size w w13) := ⟨below_box X12.out.1 hb, below_box X12.out.2.1 hb, below_to X12.out.2.2 hb⟩
  clear hb X12
  refine hK1.out _ _ ⟨cellOf X13.out.1 0 _ rfl, cellOf X13.out.1 1 _ rfl⟩ (fun hS13 => ?_)
  clear hK1 K1 hS12
  (try simp only [Act.put, List.getElem_toArray, List.getElem_cons_succ, List.getElem_cons_zero, List.setIfInBounds_toArray, List.set_cons_zero, List.set_cons_succ])
  refine wpAnyH_take (i := 17) (v := ?_) rfl (by kernel_rfl) (by kernel_rfl) (by kernel_rfl) (fun _ _ _ h => h) (Or.inl ⟨by kernel_rfl, ?_⟩) hS13 ?_
  rotate_left
  · intro w hSw; (try dsimp only at hSw); go_simp; try (with_reducible rfl)
  (try simp only [Act.put, List.getElem_toArray, List.getElem_cons_succ, List.getElem_cons_zero, List.setIfInBounds_toArray, List.set_cons_zero, List.set_cons_succ])
  refine wpAnyH_take (i := 18) (v := ?_) rfl (by kernel_rfl) (by kernel_rfl) (by kernel_rfl) (fun _ _ _ h => h) (Or.inl ⟨by kernel_rfl, ?_⟩) hS13 ?_
  rotate_left
  · intro w hSw; (try dsimp only at hSw); go_simp; try (with_reducible rfl)
  (try simp only [Act.put, List.getElem_toArray, List.getElem_cons_succ, List.getElem_cons_zero, List.setIfInBounds_toArray, List.set_cons_zero, List.set_cons_succ])
  refine wpAnyH_ready (rs := [19]) (by kernel_rfl) (by simp) ?_
  refine AllReadyH.cons rfl (fun K1 hK1 => ?_) AllReadyH.nil
  rw [if_pos (by kernel_rfl)]
  refine wp_store_row 92 _ _ rfl (w.heap.size + 1) #[.int .u64 (v0 : Int), .int .u32 (v1 : Int), .int .u16 (v2 : Int), .int .u16 (v3 : Int)] rfl rfl 92 #[.int .u64 0, .int .u32 0, .int .u16 0, .int .u16 0] X13.out.2.1 info47 rfl (by simp [Value.oneCell']) ?_
  have Y : Hid ((w13.setRow (w.heap.size + 1) #[.int .u64 (v0 : Int), .int .u32 (v1 : Int), .int .u16 (v2 : Int), .int .u16 (v3 : Int)]).heap[w.heap.size + 1]? = some (.cells #[.int .u64 (v0 : Int), .int .u32 (v1 : Int), .int .u16 (v2 : Int), .int .u16 (v3 : Int)] 92 (0, 0)) ∧ (w13.setRow (w.heap.size + 1) #[.int .u64 (v0 : Int), .int .u32 (v1 : Int), .int .u16 (v2 : Int), .int .u16 (v3 : Int)]).heap[w.heap.size]? = some (.cells #[.int .u64 8192, .slice va n vc] 32 (0, 0)) ∧ Below w.heap.size w (w13.setRow (w.heap.size + 1) #[.int .u64 (v0 : Int), .int .u32 (v1 : Int), .int .u16 (v2 : Int), .int .u16 (v3 : Int)])) := ⟨setRow_heap _ _ _ _ _ _ X13.out.2.1, by rw [setRow_other _ _ _ _ (by omega)]; exact X13.out.1, below_setRow X13.out.2.2 (Nat.le_succ _) _⟩
  generalize w13.setRow (w.heap.size + 1) #[.int .u64 (v0 : Int), .int .u32 (v1 : Int), .int .u16 (v2 : Int), .int .u16 (v3 : Int)] = w9 at *
  refine hK1.out _ _ ⟨cellOf Y.out.2.1 0 _ rfl, cellOf Y.out.2.1 1 _ rfl⟩ (fun hS20 => ?_)
  clear hK1 K1 hS13
  (try simp only [Act.put, List.getElem_toArray, List.getElem_cons_succ, List.getElem_cons_zero, List.setIfInBounds_toArray, List.set_cons_zero, List.set_cons_succ])
  refine wpAnyH_take (i := 20) (v := ?_) rfl (by kernel_rfl) (by kernel_rfl) (by kernel_rfl) (fun _ _ _ h => h) (Or.inl ⟨by kernel_rfl, ?_⟩) hS20 ?_
  rotate_left
  · intro w hSw; (try dsimp only at hSw); go_simp; try (with_reducible rfl)
  (try simp only [Act.put, List.getElem_toArray, List.getElem_cons_succ, List.getElem_cons_zero, List.setIfInBounds_toArray, List.set_cons_zero, List.set_cons_succ])
  refine wpAnyH_done (by kernel_rfl) ?_ _
  clear hS20
  obtain ⟨c0, c1, c2, c3⟩ := box4_facts Y.out.1
  go_wp2_with fail
  refine bodyPost_ret (v := .tuple #[.agg #[.int .u64 (v0 : Int), .int .u32 (v1 : Int), .int .u16 (v2 : Int), .int .u16 (v3 : Int)], .bool true]) (by simp [results, Try.results60, go_sem, c0, c1, c2, c3]) rfl ⟨rfl, Y.out.2.2⟩
/-- what Desc tells on both sides -/
def DescR (M : Nat → Nat) (t : Nat) (i : Int) (ok : Bool) (v0 v1 v2 v3 : Nat) : Prop :=
  (ok = false ∧ v0 = 0 ∧ v1 = 0 ∧ v2 = 0 ∧ v3 = 0) ∨ ∃ k x : Nat, i = k ∧ k ≤ 255 ∧ x = (t + 16 * k) % 18446744073709551616 ∧ inB x 16 2147483648 8192 = true ∧ ok = true ∧ DescAt M x v0 v1 v2 v3
theorem desc_both {F : Nat → Prop} {w : World} {rb n N vc : Nat} {va : Option Addr} {M : Nat → Nat} (h : Both F w rb 8192 (.slice va n vc) N M) (hN : N ≤ 1000000) (t : Nat) (i : Int) : ∃ ok v0 v1 v2 v3, DescR M t i ok v0 v1 v2 v3 ∧
    (∀ V, Below w.heap.size w V → Calls Try.prog 58 #[.pointer (some ⟨rb, 0, none⟩), .int .u64 (t : Nat), .int .i64 i] V fun e w' => e = .returned (.tuple #[.agg #[.int .u64 (v0 : Int), .int .u32 (v1 : Int), .int .u16 (v2 : Int), .int .u16 (v3 : Int)], .bool ok]) ∧ Below V.heap.size V w') ∧
    (∀ V, Below w.heap.size w V → Calls Try.prog 60 #[.agg #[.int .u64 8192, .slice va n vc], .int .u64 (t : Nat), .int .i64 i] V fun e w' => e = .returned (.tuple #[.agg #[.int .u64 (v0 : Int), .int .u32 (v1 : Int), .int .u16 (v2 : Int), .int .u16 (v3 : Int)], .bool ok]) ∧ Below V.heap.size V w') := by
  have hle := h.1.le
  by_cases hi : i < 0 ∨ 255 < i
  · exact ⟨false, 0, 0, 0, 0, .inl ⟨rfl, rfl, rfl, rfl, rfl⟩, fun V hV => desc_no _ t i hi V, fun V hV => rdesc_no va n vc t i hi V⟩
  · obtain ⟨k, rfl⟩ : ∃ k : Nat, i = k := ⟨i.toNat, by omega⟩
    obtain ⟨x, hx⟩ : ∃ x, x = (t + 16 * k) % 18446744073709551616 := ⟨_, rfl⟩
    cases hin : inB x 16 2147483648 8192 with
    | false => exact ⟨false, 0, 0, 0, 0, .inl ⟨rfl, rfl, rfl, rfl, rfl⟩, fun V hV => desc_out (h.1.below hV) t x k (by omega) hx hin, fun V hV => rdesc_out va n vc t x k (by omega) hx hin V⟩
    | true =>
      obtain ⟨nb, bs, h1, ⟨a', c', hsl⟩, h3, h4, h5⟩ := h.2
      simp only [Value.slice.injEq] at hsl
      obtain ⟨rfl, rfl, rfl⟩ := hsl
      refine ⟨true, _, _, _, _, .inr ⟨k, x, rfl, by omega, hx, hin, rfl, ⟨rfl, rfl, rfl, rfl⟩⟩, fun V hV => desc_in (h.1.below hV) t x k (by omega) hx hin _ _ _ _ ⟨rfl, rfl, rfl, rfl⟩, fun V hV => rdesc_in (h3.below hV) h4 hle (by omega) t x k (by omega) hx hin _ _ _ _ ⟨rfl, rfl, rfl, rfl⟩⟩
end Go.Proofs.Ytcgjfklglckjcaa
