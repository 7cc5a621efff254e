/- The law ClintAsks. -/
import Derived.Test.YtaiagfdlglidfaaOp
import Derived.Test.YtaiagfdlglidfaaDc
namespace Go.Proofs.Ytaiagfdlglidfaa
open Go.RowKit
set_option linter.unusedVariables false
set_option linter.unusedSimpArgs false
set_option maxRecDepth 100000
/-- two blocks ahead of all that is new, and the two states in blocks of their own -/
def Ask (W V : World) (A B : Array Value) (p q : Nat) (C : Array Value) : Prop := V.heap[W.heap.size]? = some (.cells A 42 (0, 0)) ∧ V.heap[W.heap.size + 1]? = some (.cells B 30 (0, 0)) ∧ Below W.heap.size W V ∧ Box 26 V p C ∧ Box 28 V q C
def Ask0 (W V : World) (A B : Array Value) : Prop := V.heap[W.heap.size]? = some (.cells A 42 (0, 0)) ∧ V.heap[W.heap.size + 1]? = some (.cells B 30 (0, 0)) ∧ Below W.heap.size W V
theorem Ask0.step {W V V' : World} {A B : Array Value} (h : Ask0 W V A B) (hb : Below V.heap.size V V') : Ask0 W V' A B := ⟨below_box h.1 hb, below_box h.2.1 hb, h.2.2.trans (hb.mono h.2.2.size)⟩
theorem Ask0.new (W : World) (A B : Array Value) : Ask0 W ((W.alloc (.cells A 42)).alloc (.cells B 30)) A B := by
  have h1 := Box.new 42 W A
  have h2 := Box.new 30 (W.alloc (.cells A 42)) B
  rw [show (W.alloc (.cells A 42)).heap.size = W.heap.size + 1 from by simp] at h2
  exact ⟨h1.alloc _, h2, ((Below.refl _ _).alloc (Nat.le_refl _) _).alloc (by simp) _⟩
theorem Ask.step {W V V' : World} {A B : Array Value} {p q : Nat} {C : Array Value} (h : Ask W V A B p q C) (hb : Below V.heap.size V V') : Ask W V' A B p q C :=
  ⟨below_box h.1 hb, below_box h.2.1 hb, h.2.2.1.trans (hb.mono h.2.2.1.size), h.2.2.2.1.step hb, h.2.2.2.2.step hb⟩
theorem Ask.new {W V : World} {A B : Array Value} (h : Ask0 W V A B) (C : Array Value) : Ask W ((V.alloc (.cells C 26)).alloc (.cells C 28)) A B V.heap.size (V.heap.size + 1) C := by
  have h1 := Box.new 26 V C
  have h2 := Box.new 28 (V.alloc (.cells C 26)) C
  rw [show (V.alloc (.cells C 26)).heap.size = V.heap.size + 1 from by simp] at h2
  have hb : Below V.heap.size V ((V.alloc (.cells C 26)).alloc (.cells C 28)) := ((Below.refl _ _).alloc (Nat.le_refl _) _).alloc (by simp) _
  have h0 := h.step hb
  exact ⟨h0.1, h0.2.1, h0.2.2, h1.alloc _, h2⟩
set_option maxHeartbeats 4000000 in
theorem asks_core (s : Bool) (c t : Nat) (kd : Int) (a : Nat) (n : Int) (v : Nat) (hc : c < 18446744073709551616) (ht : t < 18446744073709551616) (ha : a < 18446744073709551616) (W : World) : Calls Try.prog 4 #[.bool s, .agg #[.int .u64 (c : Int), .int .u64 (t : Int)], .agg #[.int .i64 kd, .int .u64 (a : Int), .int .i64 n, .int .u64 (v : Int)]] W fun e w' => e = .returned (.bool true) ∧ Below W.heap.size W w' := by
  have X0 : Hid (Ask0 W ((W.alloc (.cells #[.int .u64 (c : Int), .int .u64 (t : Int)] 42)).alloc (.cells #[.int .i64 kd, .int .u64 (a : Int), .int .i64 n, .int .u64 (v : Int)] 30)) #[.int .u64 (c : Int), .int .u64 (t : Int)] #[.int .i64 kd, .int .u64 (a : Int), .int .i64 n, .int .u64 (v : Int)]) := Ask0.new _ _ _
  have cl : ∀ p V, Box 26 V p #[.bool s, .int .u64 (c : Int), .int .u64 (t : Int)] → Calls Try.prog 11 #[.pointer (some ⟨p, 0, none⟩), .int .u64 (a : Int), .int .i64 n] V fun e w' => e = .returned (.tuple #[.int .u64 (loadR s c t a n : Nat), .bool (mayB a n)]) ∧ Below V.heap.size V w' := fun p V hx => load_any p s c t a n hc ht ha V hx
  have cd : ∀ V, Calls Try.prog 12 #[.agg #[.bool s, .int .u64 (c : Int), .int .u64 (t : Int)], .int .u64 (a : Int), .int .i64 n] V fun e w' => e = .returned (.tuple #[.int .u64 (loadR s c t a n : Nat), .bool (mayB a n)]) ∧ Below V.heap.size V w' := fun V => dload_any s c t a n hc ht ha V
  generalize loadR s c t a n = R at *
  generalize mayB a n = M at *
  clear hc ht ha
  have hRR : ((R : Int) == (R : Int)) = true := by simp
  have hMM : (M == M) = true := by simp
  have hLL : ((linesR s c t : Int) == (linesR s c t : Int)) = true := by simp
  go_enter Try.func4, Try.ntmps4
  go_upto_region 1 with fail
  generalize (W.alloc (.cells #[.int .u64 (c : Int), .int .u64 (t : Int)] 42)).alloc (.cells #[.int .i64 kd, .int .u64 (a : Int), .int .i64 n, .int .u64 (v : Int)] 30) = w0 at *
  go_wp2_with fail
  refine (awake_any _).mono ?_
  rintro e w1 ⟨rfl, hb⟩
  have X1 : Hid (Ask0 W w1 #[.int .u64 (c : Int), .int .u64 (t : Int)] #[.int .i64 kd, .int .u64 (a : Int), .int .i64 n, .int .u64 (v : Int)]) := X0.out.step hb
  clear hb X0
  have f0 := cellOf X1.out.1 0 _ rfl
  have f1 := cellOf X1.out.1 1 _ rfl
  have Xb := Box.alloc (t := 42) X1.out.1 (.cells #[.bool s, .int .u64 (c : Int), .int .u64 (t : Int)] 26)
  have g0 := cellOf Xb 0 _ rfl
  have g1 := cellOf Xb 1 _ rfl
  clear Xb
  go_upto_region 5 with fail
  have X2 : Hid (Ask W ((w1.alloc (.cells #[.bool s, .int .u64 (c : Int), .int .u64 (t : Int)] 26)).alloc (.cells #[.bool s, .int .u64 (c : Int), .int .u64 (t : Int)] 28)) #[.int .u64 (c : Int), .int .u64 (t : Int)] #[.int .i64 kd, .int .u64 (a : Int), .int .i64 n, .int .u64 (v : Int)] w1.heap.size (w1.heap.size + 1) #[.bool s, .int .u64 (c : Int), .int .u64 (t : Int)]) := Ask.new X1.out _
  generalize (w1.alloc (.cells #[.bool s, .int .u64 (c : Int), .int .u64 (t : Int)] 26)).alloc (.cells #[.bool s, .int .u64 (c : Int), .int .u64 (t : Int)] 28) = w2 at *
  clear f0 f1 g0 g1 X1
  generalize w1.heap.size + 1 = q at *
  generalize w1.heap.size = p at *
  have f1 := cellOf X2.out.2.1 1 _ rfl
  have f2 := cellOf X2.out.2.1 2 _ rfl
  go_wp2_with fail
  refine (cl _ _ X2.out.2.2.2.1).mono ?_
  rintro e w3 ⟨rfl, hb⟩
  have X3 : Hid (Ask W w3 #[.int .u64 (c : Int), .int .u64 (t : Int)] #[.int .i64 kd, .int .u64 (a : Int), .int .i64 n, .int .u64 (v : Int)] p q #[.bool s, .int .u64 (c : Int), .int .u64 (t : Int)]) := X2.out.step hb
  clear hb f1 f2 cl
  have f1 := cellOf X3.out.2.1 1 _ rfl
  have f2 := cellOf X3.out.2.1 2 _ rfl
  have g0 := cellOf X3.out.2.2.2.2 0 _ rfl
  have g1 := cellOf X3.out.2.2.2.2 1 _ rfl
  have g2 := cellOf X3.out.2.2.2.2 2 _ rfl
  go_wp2_with fail
  refine (cd _).mono ?_
  rintro e w5 ⟨rfl, hb⟩
  have X5 : Hid (Ask W w5 #[.int .u64 (c : Int), .int .u64 (t : Int)] #[.int .i64 kd, .int .u64 (a : Int), .int .i64 n, .int .u64 (v : Int)] p q #[.bool s, .int .u64 (c : Int), .int .u64 (t : Int)]) := X3.out.step hb
  clear hb f1 f2 g0 g1 g2 cd X2 X3
  go_upto_region 7 with fail
  have X5d : Hid (Ask W w5.drew #[.int .u64 (c : Int), .int .u64 (t : Int)] #[.int .i64 kd, .int .u64 (a : Int), .int .i64 n, .int .u64 (v : Int)] p q #[.bool s, .int .u64 (c : Int), .int .u64 (t : Int)]) := X5.out.step (Below.drew (Below.refl _ _))
  refine wp_region_held_drew (S := fun V => (V.cell? ⟨p, 0, none⟩ = some (.bool s) ∧ V.cell? ⟨p, 1, none⟩ = some (.int .u64 (c : Int)) ∧ V.cell? ⟨p, 2, none⟩ = some (.int .u64 (t : Int))) ∧ V.cell? ⟨q, 0, none⟩ = some (.bool s) ∧ V.cell? ⟨q, 1, none⟩ = some (.int .u64 (c : Int)) ∧ V.cell? ⟨q, 2, none⟩ = some (.int .u64 (t : Int))) (by kernel_rfl) ⟨⟨cellOf X5d.out.2.2.2.1 0 _ rfl, cellOf X5d.out.2.2.2.1 1 _ rfl, cellOf X5d.out.2.2.2.1 2 _ rfl⟩, cellOf X5d.out.2.2.2.2 0 _ rfl, cellOf X5d.out.2.2.2.2 1 _ rfl, cellOf X5d.out.2.2.2.2 2 _ rfl⟩ ?_
  intro hS
  refine wpAnyH_take (i := 0) (v := ?_) rfl (by kernel_rfl) (by kernel_rfl) (by kernel_rfl) (fun _ _ _ h => h) (Or.inl ⟨by kernel_rfl, ?_⟩) hS ?_
  rotate_left
  · intro w hSw; (try dsimp only at hSw); go_simp; try (with_reducible rfl)
  (try simp only [Act.put, List.getElem_toArray, List.getElem_cons_succ, List.getElem_cons_zero, List.setIfInBounds_toArray, List.set_cons_zero, List.set_cons_succ])
  refine wpAnyH_take (i := 1) (v := ?_) rfl (by kernel_rfl) (by kernel_rfl) (by kernel_rfl) (fun _ _ _ h => h) (Or.inl ⟨by kernel_rfl, ?_⟩) hS ?_
  rotate_left
  · intro w hSw; (try dsimp only at hSw); go_simp; try (with_reducible rfl)
  (try simp only [Act.put, List.getElem_toArray, List.getElem_cons_succ, List.getElem_cons_zero, List.setIfInBounds_toArray, List.set_cons_zero, List.set_cons_succ])
  refine wpAnyH_take (i := 2) (v := ?_) rfl (by kernel_rfl) (by kernel_rfl) (by kernel_rfl) (fun _ _ _ h => h) (Or.inl ⟨by kernel_rfl, ?_⟩) hS ?_
  rotate_left
  · intro w hSw; (try dsimp only at hSw); go_simp; try (with_reducible rfl)
  (try simp only [Act.put, List.getElem_toArray, List.getElem_cons_succ, List.getElem_cons_zero, List.setIfInBounds_toArray, List.set_cons_zero, List.set_cons_succ])
  refine wpAnyH_take (i := 3) (v := ?_) rfl (by kernel_rfl) (by kernel_rfl) (by kernel_rfl) (fun _ _ _ h => h) (Or.inl ⟨by kernel_rfl, ?_⟩) hS ?_
  rotate_left
  · intro w hSw; (try dsimp only at hSw); go_simp; try (with_reducible rfl)
  (try simp only [Act.put, List.getElem_toArray, List.getElem_cons_succ, List.getElem_cons_zero, List.setIfInBounds_toArray, List.set_cons_zero, List.set_cons_succ])
  refine wpAnyH_take (i := 4) (v := ?_) rfl (by kernel_rfl) (by kernel_rfl) (by kernel_rfl) (fun _ _ _ h => h) (Or.inl ⟨by kernel_rfl, ?_⟩) hS ?_
  rotate_left
  · intro w hSw; (try dsimp only at hSw); go_simp; try (with_reducible rfl)
  (try simp only [Act.put, List.getElem_toArray, List.getElem_cons_succ, List.getElem_cons_zero, List.setIfInBounds_toArray, List.set_cons_zero, List.set_cons_succ])
  refine wpAnyH_take (i := 5) (v := ?_) rfl (by kernel_rfl) (by kernel_rfl) (by kernel_rfl) (fun _ _ _ h => h) (Or.inl ⟨by kernel_rfl, ?_⟩) hS ?_
  rotate_left
  · intro w hSw; (try dsimp only at hSw); go_simp; try (with_reducible rfl)
  (try simp only [Act.put, List.getElem_toArray, List.getElem_cons_succ, List.getElem_cons_zero, List.setIfInBounds_toArray, List.set_cons_zero, List.set_cons_succ])
  refine wpAnyH_take (i := 6) (v := ?_) rfl (by kernel_rfl) (by kernel_rfl) (by kernel_rfl) (fun _ _ _ h => h) (Or.inl ⟨by kernel_rfl, ?_⟩) hS ?_
  rotate_left
  · intro w hSw; (try dsimp only at hSw); go_simp; try (with_reducible rfl)
  (try simp only [Act.put, List.getElem_toArray, List.getElem_cons_succ, List.getElem_cons_zero, List.setIfInBounds_toArray, List.set_cons_zero, List.set_cons_succ])
  refine wpAnyH_take (i := 7) (v := ?_) rfl (by kernel_rfl) (by kernel_rfl) (by kernel_rfl) (fun _ _ _ h => h) (Or.inl ⟨by kernel_rfl, ?_⟩) hS ?_
  rotate_left
  · intro w hSw; (try dsimp only at hSw); go_simp; try (with_reducible rfl)
  (try simp only [Act.put, List.getElem_toArray, List.getElem_cons_succ, List.getElem_cons_zero, List.setIfInBounds_toArray, List.set_cons_zero, List.set_cons_succ])
  refine wpAnyH_take (i := 8) (v := ?_) rfl (by kernel_rfl) (by kernel_rfl) (by kernel_rfl) (fun _ _ _ h => h) (Or.inl ⟨by kernel_rfl, ?_⟩) hS ?_
  rotate_left
  · intro w hSw; (try dsimp only at hSw); go_simp; try (with_reducible rfl)
  (try simp only [Act.put, List.getElem_toArray, List.getElem_cons_succ, List.getElem_cons_zero, List.setIfInBounds_toArray, List.set_cons_zero, List.set_cons_succ])
  refine wpAnyH_take (i := 9) (v := ?_) rfl (by kernel_rfl) (by kernel_rfl) (by kernel_rfl) (fun _ _ _ h => h) (Or.inl ⟨by kernel_rfl, ?_⟩) hS ?_
  rotate_left
  · intro w hSw; (try dsimp only at hSw); go_simp; try (with_reducible rfl)
  (try simp only [Act.put, List.getElem_toArray, List.getElem_cons_succ, List.getElem_cons_zero, List.setIfInBounds_toArray, List.set_cons_zero, List.set_cons_succ])
  refine wpAnyH_take (i := 10) (v := ?_) rfl (by kernel_rfl) (by kernel_rfl) (by kernel_rfl) (fun _ _ _ h => h) (Or.inl ⟨by kernel_rfl, ?_⟩) hS ?_
  rotate_left
  · intro w hSw; (try dsimp only at hSw); go_simp; try (with_reducible rfl)
  (try simp only [Act.put, List.getElem_toArray, List.getElem_cons_succ, List.getElem_cons_zero, List.setIfInBounds_toArray, List.set_cons_zero, List.set_cons_succ])
  refine wpAnyH_ready (rs := [11]) (by kernel_rfl) (by simp) ?_
  refine AllReadyH.cons rfl (fun K1 hK1 => ?_) AllReadyH.nil
  go_simp
  refine (is_any s c t _).mono ?_
  rintro e w11 ⟨rfl, hb⟩
  have X11 : Hid (Ask W w11 #[.int .u64 (c : Int), .int .u64 (t : Int)] #[.int .i64 kd, .int .u64 (a : Int), .int .i64 n, .int .u64 (v : Int)] p q #[.bool s, .int .u64 (c : Int), .int .u64 (t : Int)]) := X5d.out.step hb
  clear hb
  refine hK1.out _ _ ⟨⟨cellOf X11.out.2.2.2.1 0 _ rfl, cellOf X11.out.2.2.2.1 1 _ rfl, cellOf X11.out.2.2.2.1 2 _ rfl⟩, cellOf X11.out.2.2.2.2 0 _ rfl, cellOf X11.out.2.2.2.2 1 _ rfl, cellOf X11.out.2.2.2.2 2 _ rfl⟩ (fun hS11 => ?_)
  clear hK1 K1 hS
  (try simp only [Act.put, List.getElem_toArray, List.getElem_cons_succ, List.getElem_cons_zero, List.setIfInBounds_toArray, List.set_cons_zero, List.set_cons_succ])
  refine wpAnyH_take (i := 12) (v := ?_) rfl (by kernel_rfl) (by kernel_rfl) (by kernel_rfl) (fun _ _ _ h => h) (Or.inl ⟨by kernel_rfl, ?_⟩) hS11 ?_
  rotate_left
  · intro w hSw; (try dsimp only at hSw); go_simp; try (with_reducible rfl)
  (try simp only [Act.put, List.getElem_toArray, List.getElem_cons_succ, List.getElem_cons_zero, List.setIfInBounds_toArray, List.set_cons_zero, List.set_cons_succ])
  refine wpAnyH_take (i := 13) (v := ?_) rfl (by kernel_rfl) (by kernel_rfl) (by kernel_rfl) (fun _ _ _ h => h) (Or.inl ⟨by kernel_rfl, ?_⟩) hS11 ?_
  rotate_left
  · intro w hSw; (try dsimp only at hSw); go_simp; try (with_reducible rfl)
  (try simp only [Act.put, List.getElem_toArray, List.getElem_cons_succ, List.getElem_cons_zero, List.setIfInBounds_toArray, List.set_cons_zero, List.set_cons_succ])
  refine wpAnyH_take (i := 15) (v := ?_) rfl (by kernel_rfl) (by kernel_rfl) (by kernel_rfl) (fun _ _ _ h => h) (Or.inl ⟨by kernel_rfl, ?_⟩) hS11 ?_
  rotate_left
  · intro w hSw; (try dsimp only at hSw); go_simp; try (with_reducible rfl)
  (try simp only [Act.put, List.getElem_toArray, List.getElem_cons_succ, List.getElem_cons_zero, List.setIfInBounds_toArray, List.set_cons_zero, List.set_cons_succ])
  refine wpAnyH_ready (rs := [14]) (by kernel_rfl) (by simp) ?_
  refine AllReadyH.cons rfl (fun K1 hK1 => ?_) AllReadyH.nil
  go_simp
  refine (lines_any p s c t _ X11.out.2.2.2.1).mono ?_
  rintro e w12 ⟨rfl, hb⟩
  have X12 : Hid (Ask W w12 #[.int .u64 (c : Int), .int .u64 (t : Int)] #[.int .i64 kd, .int .u64 (a : Int), .int .i64 n, .int .u64 (v : Int)] p q #[.bool s, .int .u64 (c : Int), .int .u64 (t : Int)]) := X11.out.step hb
  clear hb
  refine hK1.out _ _ ⟨⟨cellOf X12.out.2.2.2.1 0 _ rfl, cellOf X12.out.2.2.2.1 1 _ rfl, cellOf X12.out.2.2.2.1 2 _ rfl⟩, cellOf X12.out.2.2.2.2 0 _ rfl, cellOf X12.out.2.2.2.2 1 _ rfl, cellOf X12.out.2.2.2.2 2 _ rfl⟩ (fun hS12 => ?_)
  clear hK1 K1 hS11
  (try simp only [Act.put, List.getElem_toArray, List.getElem_cons_succ, List.getElem_cons_zero, List.setIfInBounds_toArray, List.set_cons_zero, List.set_cons_succ])
  refine wpAnyH_ready (rs := [16]) (by kernel_rfl) (by simp) ?_
  refine AllReadyH.cons rfl (fun K1 hK1 => ?_) AllReadyH.nil
  go_simp
  refine (dlines_any s c t _).mono ?_
  rintro e w13 ⟨rfl, hb⟩
  have X13 : Hid (Ask W w13 #[.int .u64 (c : Int), .int .u64 (t : Int)] #[.int .i64 kd, .int .u64 (a : Int), .int .i64 n, .int .u64 (v : Int)] p q #[.bool s, .int .u64 (c : Int), .int .u64 (t : Int)]) := X12.out.step hb
  clear hb
  refine hK1.out _ _ ⟨⟨cellOf X13.out.2.2.2.1 0 _ rfl, cellOf X13.out.2.2.2.1 1 _ rfl, cellOf X13.out.2.2.2.1 2 _ rfl⟩, cellOf X13.out.2.2.2.2 0 _ rfl, cellOf X13.out.2.2.2.2 1 _ rfl, cellOf X13.out.2.2.2.2 2 _ rfl⟩ (fun hS13 => ?_)
  clear hK1 K1 hS12
  (try simp only [Act.put, List.getElem_toArray, List.getElem_cons_succ, List.getElem_cons_zero, List.setIfInBounds_toArray, List.set_cons_zero, List.set_cons_succ])
  refine wpAnyH_take (i := 17) (v := ?_) rfl (by kernel_rfl) (by kernel_rfl) (by kernel_rfl) (fun _ _ _ h => h) (Or.inl ⟨by kernel_rfl, ?_⟩) hS13 ?_
  rotate_left
  · intro w hSw; (try dsimp only at hSw); go_simp; try (with_reducible rfl)
  (try simp only [Act.put, List.getElem_toArray, List.getElem_cons_succ, List.getElem_cons_zero, List.setIfInBounds_toArray, List.set_cons_zero, List.set_cons_succ])
  refine wpAnyH_take (i := 18) (v := ?_) rfl (by kernel_rfl) (by kernel_rfl) (by kernel_rfl) (fun _ _ _ h => h) (Or.inl ⟨by kernel_rfl, ?_⟩) hS13 ?_
  rotate_left
  · intro w hSw; (try dsimp only at hSw); go_simp; try (with_reducible rfl)
  (try simp only [Act.put, List.getElem_toArray, List.getElem_cons_succ, List.getElem_cons_zero, List.setIfInBounds_toArray, List.set_cons_zero, List.set_cons_succ])
  refine wpAnyH_take (i := 19) (v := ?_) rfl (by kernel_rfl) (by kernel_rfl) (by kernel_rfl) (fun _ _ _ h => h) (Or.inl ⟨by kernel_rfl, ?_⟩) hS13 ?_
  rotate_left
  · intro w hSw; (try dsimp only at hSw); go_simp; try (with_reducible rfl)
  (try simp only [Act.put, List.getElem_toArray, List.getElem_cons_succ, List.getElem_cons_zero, List.setIfInBounds_toArray, List.set_cons_zero, List.set_cons_succ])
  refine wpAnyH_done (by kernel_rfl) ?_ _
  clear hS13
  go_wp2_with fail
  go_ret
  exact ⟨by simp, X13.out.2.2.1⟩
theorem asks_walk (W : World) (a0 : Bool) (a1 b1 : Int) (w1 : (Lit.int .u64 a1).wf = true) (z1 : (Lit.int .u64 b1).wf = true) (o : Int × Nat × Int × Nat) (h1 : o.2.1 < 18446744073709551616) (h2 : o.2.2.2 < 18446744073709551616) : Calls Try.prog 4 #[.bool a0, .agg #[.int .u64 a1, .int .u64 b1], .agg #[.int .i64 o.1, .int .u64 (o.2.1 : Nat), .int .i64 o.2.2.1, .int .u64 (o.2.2.2 : Nat)]] W fun e w' => e = .returned (.bool true) ∧ Below W.heap.size W w' := by
  obtain ⟨x, rfl, hx⟩ := nat_u64 w1
  obtain ⟨y, rfl, hy⟩ := nat_u64 z1
  exact asks_core a0 x y o.1 o.2.1 o.2.2.1 o.2.2.2 hx hy h1 W
end Go.Proofs.Ytaiagfdlglidfaa
