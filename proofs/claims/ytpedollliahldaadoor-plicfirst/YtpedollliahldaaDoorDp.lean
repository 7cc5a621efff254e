/- The call 'do' of the statements: Take, Load and Store; any call. -/
import Derived.Test.YtpedollliahldaaDoorDn
namespace Go.Proofs.YtpedollliahldaaDoor
open Go.RowKit
set_option linter.unusedVariables false
set_option linter.unusedSimpArgs false
set_option maxRecDepth 100000
section
variable {w W W' : World} {b q : Nat} {S Sc Sr S2 S3 : St} {O : Array Value}
theorem D4.other (h : D4 w W b S Sc Sr O) (hu : Upon q W W') (hq : w.heap.size + 2 < q) : D4 w W' b S Sc Sr O := by
  obtain ⟨h1, h2, h3, h4, h5, h6, h7, h8⟩ := h
  exact ⟨hu.box h1 (by omega), hu.box h2 (by omega), hu.box h3 (by omega), hu.box h4 (by omega), h5.and hu (by omega), h6.upon hu (by omega), h7, h8⟩
/-- .. and the document's next state in a block of its own -/
def D5 (w W : World) (b q : Nat) (S Sc Sr S2 : St) (O : Array Value) : Prop := D4 w W b S Sc Sr O ∧ Box 34 W q (docC S2) ∧ w.heap.size + 2 < q
theorem D5.step (h : D5 w W b q S Sc Sr S2 O) (hb : Below W.heap.size W W') : D5 w W' b q S Sc Sr S2 O := ⟨h.1.step hb, h.2.1.step hb, h.2.2⟩
theorem D5.prog (h : D5 w W b q S Sc Sr S2 O) (hx : Box 28 W' b (progC S3)) (hu : Upon b W W') : D5 w W' b q S S3 Sr S2 O := ⟨h.1.prog hx hu, hu.box h.2.1 (by have := h.1.2.2.2.2.2.2.1; have := h.2.2; omega), h.2.2⟩
theorem D5.res (h : D5 w W b q S Sc Sr S2 O) (hx : Box 34 W' (w.heap.size + 2) (docC S3)) (hu : Upon (w.heap.size + 2) W W') : D5 w W' b q S Sc S3 S2 O := ⟨h.1.res hx hu, hu.box h.2.1 (by have := h.2.2; omega), h.2.2⟩
theorem D5.new (h : D4 w W b S Sc Sr O) (hx : Box 34 W' W.heap.size (docC S2)) (hu : Upon W.heap.size (W.alloc (.cells (docC zeroS) 34)) W') : D5 w W' b W.heap.size S Sc Sr S2 O := by
  have hq := h.2.2.2.1.lt
  exact ⟨(h.step ((Below.refl _ _).alloc (Nat.le_refl _) _)).other hu hq, hx, hq⟩
end
set_option maxHeartbeats 4000000 in
theorem do_take (S S2 : St) (b : Nat) (n m : Int) (hi : Bool) (a v : Nat) (x : Int) (HP : Hid (∀ V, Box 28 V b (progC S) → TabLies V → Calls Tryd.prog 9 #[.pointer (some ⟨b, 0, none⟩), .int .i64 n] V fun e w' => e = .returned (.int .i64 x) ∧ Box 28 w' b (progC S2) ∧ Upon b V w')) (HD : Hid (∀ V, Calls Tryd.prog 26 #[.agg (docC S), .int .i64 n] V fun e w' => e = .returned (.tuple #[.agg (docC S2), .int .i64 x]) ∧ Below V.heap.size V w')) (w : World) (hx : Box 28 w b (progC S)) (ht : TabLies w) (hb : b ≠ 0) : Calls Tryd.prog 14 #[.pointer (some ⟨b, 0, none⟩), .agg (docC S), .agg #[.int .i64 1, .int .i64 n, .int .i64 m, .bool hi, .int .u64 (a : Int), .int .u64 (v : Int)]] w fun e w' => e = .returned (.tuple #[.agg (docC S2), .bool true]) ∧ Box 28 w' b (progC S2) ∧ Upon b w w' := by
  have hxx : (x == x) = true := by simp
  go_enter Tryd.func14, Tryd.ntmps14
  go_upto_region 0 with fail
  refine wp_region_list ?_
  refine wpList_box_agg 34 (docC S) _ rfl rfl rfl ?_
  refine wpList_box_agg 41 #[.int .i64 1, .int .i64 n, .int .i64 m, .bool hi, .int .u64 (a : Int), .int .u64 (v : Int)] _ rfl rfl rfl ?_
  refine wpList_alloc_zero 34 (docC zeroS) 194 infoz34 rfl rfl ?_
  rw [show ((w.alloc (.cells (docC S) 34)).alloc (.cells #[.int .i64 1, .int .i64 n, .int .i64 m, .bool hi, .int .u64 (a : Int), .int .u64 (v : Int)] 41)).heap.size = w.heap.size + 2 from by simp, show (w.alloc (.cells (docC S) 34)).heap.size = w.heap.size + 1 from by simp]
  have X0 : Hid (D4 w (((w.alloc (.cells (docC S) 34)).alloc (.cells #[.int .i64 1, .int .i64 n, .int .i64 m, .bool hi, .int .u64 (a : Int), .int .u64 (v : Int)] 41)).alloc (.cells (docC zeroS) 34)) b S S zeroS #[.int .i64 1, .int .i64 n, .int .i64 m, .bool hi, .int .u64 (a : Int), .int .u64 (v : Int)]) := D4.new w b S _ hx ht hb
  clear hx ht hb
  generalize ((w.alloc (.cells (docC S) 34)).alloc (.cells #[.int .i64 1, .int .i64 n, .int .i64 m, .bool hi, .int .u64 (a : Int), .int .u64 (v : Int)] 41)).alloc (.cells (docC zeroS) 34) = W at *
  have c0 := X0.out.2.2.1.cell 0 _ rfl
  have c1 := X0.out.2.2.1.cell 1 _ rfl
  go_upto_region 6 with fail
  refine wp_region_list ?_
  refine wpList_load_doc rfl _ rfl w.heap.size (S) rfl X0.out.2.1 ?_
  (refine wpList_step (fun KK hKK => ?_); go_simp; refine hKK _ _ ?_; clear hKK KK)
  (refine wpList_step (fun KK hKK => ?_); go_simp; refine hKK _ _ ?_; clear hKK KK)
  refine wpList_step (fun KK hKK => ?_)
  go_simp
  refine (HD.out _).mono ?_
  rintro e w2 ⟨rfl, hb2⟩
  have X2 : Hid (D4 w w2 b S S zeroS #[.int .i64 1, .int .i64 n, .int .i64 m, .bool hi, .int .u64 (a : Int), .int .u64 (v : Int)]) := X0.out.step hb2
  clear hb2 X0 c0 c1
  refine hKK _ _ ?_
  clear hKK KK
  (refine wpList_step (fun KK hKK => ?_); go_simp; refine hKK _ _ ?_; clear hKK KK)
  refine wpList_extract_at rfl _ _ _ _ rfl rfl rfl ?_
  refine wpList_extract_at rfl _ _ _ _ rfl rfl rfl ?_
  refine wpList_alloc_zero 34 (docC zeroS) 194 infoz34 rfl rfl ?_
  refine wpList_store_doc rfl _ _ rfl w2.heap.size S2 (docC zeroS) rfl rfl (Box.new 34 w2 _) (by rw [docC_size, docC_size]) ?_
  intro W3 B3 U3
  have Y3 : Hid (D5 w W3 b w2.heap.size S S zeroS S2 #[.int .i64 1, .int .i64 n, .int .i64 m, .bool hi, .int .u64 (a : Int), .int .u64 (v : Int)]) := D5.new X2.out B3 U3
  clear B3 U3 X2
  generalize w2.heap.size = q at *
  go_upto_region 7 with fail
  have Yd : Hid (D5 w W3.drew b q S S zeroS S2 #[.int .i64 1, .int .i64 n, .int .i64 m, .bool hi, .int .u64 (a : Int), .int .u64 (v : Int)]) := Y3.out.step (Below.drew (Below.refl _ _))
  refine wp_region_held_drew (S := fun V => Box 34 V q (docC S2) ∧ V.cell? ⟨w.heap.size + 1, 1, none⟩ = some (.int .i64 n)) (by kernel_rfl) ⟨Yd.out.2.1, Yd.out.1.2.2.1.cell 1 _ rfl⟩ ?_
  intro hS
  refine wpAnyH_take (i := 0) (v := .agg (docC S2)) rfl (by kernel_rfl) (by kernel_rfl) (by kernel_rfl) (fun _ _ _ h => h) (Or.inl ⟨by kernel_rfl, fun V hV => yield_doc hV.1 _ rfl rfl⟩) hS ?_
  (try simp only [Act.put, List.getElem_toArray, List.getElem_cons_succ, List.getElem_cons_zero, List.setIfInBounds_toArray, List.set_cons_zero, List.set_cons_succ])
  refine wpAnyH_take (i := 1) (v := ?_) rfl (by kernel_rfl) (by kernel_rfl) (by kernel_rfl) (fun _ _ _ h => h) (Or.inl ⟨by kernel_rfl, ?_⟩) hS ?_
  rotate_left
  · intro w hSw; (try dsimp only at hSw); go_simp; try (with_reducible rfl)
  (try simp only [Act.put, List.getElem_toArray, List.getElem_cons_succ, List.getElem_cons_zero, List.setIfInBounds_toArray, List.set_cons_zero, List.set_cons_succ])
  refine wpAnyH_take (i := 2) (v := ?_) rfl (by kernel_rfl) (by kernel_rfl) (by kernel_rfl) (fun _ _ _ h => h) (Or.inl ⟨by kernel_rfl, ?_⟩) hS ?_
  rotate_left
  · intro w hSw; (try dsimp only at hSw); go_simp; try (with_reducible rfl)
  (try simp only [Act.put, List.getElem_toArray, List.getElem_cons_succ, List.getElem_cons_zero, List.setIfInBounds_toArray, List.set_cons_zero, List.set_cons_succ])
  refine wpAnyH_take (i := 3) (v := ?_) rfl (by kernel_rfl) (by kernel_rfl) (by kernel_rfl) (fun _ _ _ h => h) (Or.inl ⟨by kernel_rfl, ?_⟩) hS ?_
  rotate_left
  · intro w hSw; (try dsimp only at hSw); go_simp; try (with_reducible rfl)
  (try simp only [Act.put, List.getElem_toArray, List.getElem_cons_succ, List.getElem_cons_zero, List.setIfInBounds_toArray, List.set_cons_zero, List.set_cons_succ])
  refine wpAnyH_take (i := 5) (v := ?_) rfl (by kernel_rfl) (by kernel_rfl) (by kernel_rfl) (fun _ _ _ h => h) (Or.inl ⟨by kernel_rfl, ?_⟩) hS ?_
  rotate_left
  · intro w hSw; (try dsimp only at hSw); go_simp; try (with_reducible rfl)
  (try simp only [Act.put, List.getElem_toArray, List.getElem_cons_succ, List.getElem_cons_zero, List.setIfInBounds_toArray, List.set_cons_zero, List.set_cons_succ])
  refine wpAnyH_ready (rs := [4]) (by kernel_rfl) (by simp) ?_
  refine AllReadyH.cons rfl (fun K1 hK1 => ?_) AllReadyH.nil
  go_simp
  refine (HP.out _ Yd.out.1.1 Yd.out.1.2.2.2.2.2.1).mono ?_
  rintro e w21 ⟨rfl, hB, hU⟩
  have hb := And.intro hB hU
  clear hB hU
  have X21 : Hid (D5 w w21 b q S S2 zeroS S2 #[.int .i64 1, .int .i64 n, .int .i64 m, .bool hi, .int .u64 (a : Int), .int .u64 (v : Int)]) := Yd.out.prog hb.1 hb.2
  clear hb
  refine hK1.out _ _ ⟨X21.out.2.1, X21.out.1.2.2.1.cell 1 _ rfl⟩ (fun hS21 => ?_)
  clear hK1 K1 hS
  (try simp only [Act.put, List.getElem_toArray, List.getElem_cons_succ, List.getElem_cons_zero, List.setIfInBounds_toArray, List.set_cons_zero, List.set_cons_succ])
  refine wpAnyH_take (i := 6) (v := ?_) rfl (by kernel_rfl) (by kernel_rfl) (by kernel_rfl) (fun _ _ _ h => h) (Or.inl ⟨by kernel_rfl, ?_⟩) hS21 ?_
  rotate_left
  · intro w hSw; (try dsimp only at hSw); go_simp; try (with_reducible rfl)
  (try simp only [Act.put, List.getElem_toArray, List.getElem_cons_succ, List.getElem_cons_zero, List.setIfInBounds_toArray, List.set_cons_zero, List.set_cons_succ])
  refine wpAnyH_ready (rs := [7]) (by kernel_rfl) (by simp) ?_
  refine AllReadyH.cons rfl (fun K1 hK1 => ?_) AllReadyH.nil
  rw [if_pos (by kernel_rfl)]
  refine wp_store_doc _ _ rfl (w.heap.size + 2) S2 (docC zeroS) rfl rfl X21.out.1.2.2.2.1 (by rw [docC_size, docC_size]) ?_
  intro W9 B9 U9
  have Y9 : Hid (D5 w W9 b q S S2 S2 S2 #[.int .i64 1, .int .i64 n, .int .i64 m, .bool hi, .int .u64 (a : Int), .int .u64 (v : Int)]) := X21.out.res B9 U9
  clear B9 U9
  refine hK1.out _ _ ⟨Y9.out.2.1, Y9.out.1.2.2.1.cell 1 _ rfl⟩ (fun hS9 => ?_)
  clear hK1 K1 hS21
  (try simp only [Act.put, List.getElem_toArray, List.getElem_cons_succ, List.getElem_cons_zero, List.setIfInBounds_toArray, List.set_cons_zero, List.set_cons_succ])
  refine wpAnyH_take (i := 8) (v := ?_) rfl (by kernel_rfl) (by kernel_rfl) (by kernel_rfl) (fun _ _ _ h => h) (Or.inl ⟨by kernel_rfl, ?_⟩) hS9 ?_
  rotate_left
  · intro w hSw; (try dsimp only at hSw); go_simp; try (with_reducible rfl)
  (try simp only [Act.put, List.getElem_toArray, List.getElem_cons_succ, List.getElem_cons_zero, List.setIfInBounds_toArray, List.set_cons_zero, List.set_cons_succ])
  refine wpAnyH_done (by kernel_rfl) ?_ _
  clear hS9
  have X9 : Hid (D4 w W9 b S S2 S2 #[.int .i64 1, .int .i64 n, .int .i64 m, .bool hi, .int .u64 (a : Int), .int .u64 (v : Int)]) := Y9.out.1
  go_wp2_with fail
  exact bodyPost_ret (v := .tuple #[.agg (docC S2), .bool true]) (resultsD2 (p := 6) (t := 7) rfl _ _ (w.heap.size + 2) S2 rfl X9.out.2.2.2.1) rfl ⟨rfl, X9.out.1, X9.out.2.2.2.2.1⟩
set_option maxHeartbeats 4000000 in
theorem do_store (S S2 : St) (b : Nat) (n m : Int) (hi : Bool) (a v : Nat) (x : Bool) (HP : Hid (∀ V, Box 28 V b (progC S) → Calls Tryd.prog 12 #[.pointer (some ⟨b, 0, none⟩), .int .u64 (a : Int), .int .i64 n, .int .u64 (v : Int)] V fun e w' => e = .returned (.bool x) ∧ Box 28 w' b (progC S2) ∧ Upon b V w')) (HD : Hid (∀ V, Calls Tryd.prog 30 #[.agg (docC S), .int .u64 (a : Int), .int .i64 n, .int .u64 (v : Int)] V fun e w' => e = .returned (.tuple #[.agg (docC S2), .bool x]) ∧ Below V.heap.size V w')) (w : World) (hx : Box 28 w b (progC S)) (ht : TabLies w) (hb : b ≠ 0) : Calls Tryd.prog 14 #[.pointer (some ⟨b, 0, none⟩), .agg (docC S), .agg #[.int .i64 4, .int .i64 n, .int .i64 m, .bool hi, .int .u64 (a : Int), .int .u64 (v : Int)]] w fun e w' => e = .returned (.tuple #[.agg (docC S2), .bool true]) ∧ Box 28 w' b (progC S2) ∧ Upon b w w' := by
  have hxx : (x == x) = true := by simp
  go_enter Tryd.func14, Tryd.ntmps14
  go_upto_region 0 with fail
  refine wp_region_list ?_
  refine wpList_box_agg 34 (docC S) _ rfl rfl rfl ?_
  refine wpList_box_agg 41 #[.int .i64 4, .int .i64 n, .int .i64 m, .bool hi, .int .u64 (a : Int), .int .u64 (v : Int)] _ rfl rfl rfl ?_
  refine wpList_alloc_zero 34 (docC zeroS) 194 infoz34 rfl rfl ?_
  rw [show ((w.alloc (.cells (docC S) 34)).alloc (.cells #[.int .i64 4, .int .i64 n, .int .i64 m, .bool hi, .int .u64 (a : Int), .int .u64 (v : Int)] 41)).heap.size = w.heap.size + 2 from by simp, show (w.alloc (.cells (docC S) 34)).heap.size = w.heap.size + 1 from by simp]
  have X0 : Hid (D4 w (((w.alloc (.cells (docC S) 34)).alloc (.cells #[.int .i64 4, .int .i64 n, .int .i64 m, .bool hi, .int .u64 (a : Int), .int .u64 (v : Int)] 41)).alloc (.cells (docC zeroS) 34)) b S S zeroS #[.int .i64 4, .int .i64 n, .int .i64 m, .bool hi, .int .u64 (a : Int), .int .u64 (v : Int)]) := D4.new w b S _ hx ht hb
  clear hx ht hb
  generalize ((w.alloc (.cells (docC S) 34)).alloc (.cells #[.int .i64 4, .int .i64 n, .int .i64 m, .bool hi, .int .u64 (a : Int), .int .u64 (v : Int)] 41)).alloc (.cells (docC zeroS) 34) = W at *
  have c0 := X0.out.2.2.1.cell 0 _ rfl
  have c1 := X0.out.2.2.1.cell 1 _ rfl
  have c4 := X0.out.2.2.1.cell 4 _ rfl
  have c5 := X0.out.2.2.1.cell 5 _ rfl
  go_upto_region 16 with fail
  refine wp_region_list ?_
  refine wpList_load_doc rfl _ rfl w.heap.size (S) rfl X0.out.2.1 ?_
  (refine wpList_step (fun KK hKK => ?_); go_simp; refine hKK _ _ ?_; clear hKK KK)
  (refine wpList_step (fun KK hKK => ?_); go_simp; refine hKK _ _ ?_; clear hKK KK)
  (refine wpList_step (fun KK hKK => ?_); go_simp; refine hKK _ _ ?_; clear hKK KK)
  (refine wpList_step (fun KK hKK => ?_); go_simp; refine hKK _ _ ?_; clear hKK KK)
  (refine wpList_step (fun KK hKK => ?_); go_simp; refine hKK _ _ ?_; clear hKK KK)
  (refine wpList_step (fun KK hKK => ?_); go_simp; refine hKK _ _ ?_; clear hKK KK)
  refine wpList_step (fun KK hKK => ?_)
  go_simp
  refine (HD.out _).mono ?_
  rintro e w2 ⟨rfl, hb2⟩
  have X2 : Hid (D4 w w2 b S S zeroS #[.int .i64 4, .int .i64 n, .int .i64 m, .bool hi, .int .u64 (a : Int), .int .u64 (v : Int)]) := X0.out.step hb2
  clear hb2 X0 c0 c1 c4 c5
  refine hKK _ _ ?_
  clear hKK KK
  (refine wpList_step (fun KK hKK => ?_); go_simp; refine hKK _ _ ?_; clear hKK KK)
  refine wpList_extract_at rfl _ _ _ _ rfl rfl rfl ?_
  refine wpList_extract_at rfl _ _ _ _ rfl rfl rfl ?_
  refine wpList_alloc_zero 34 (docC zeroS) 194 infoz34 rfl rfl ?_
  refine wpList_store_doc rfl _ _ rfl w2.heap.size S2 (docC zeroS) rfl rfl (Box.new 34 w2 _) (by rw [docC_size, docC_size]) ?_
  intro W3 B3 U3
  have Y3 : Hid (D5 w W3 b w2.heap.size S S zeroS S2 #[.int .i64 4, .int .i64 n, .int .i64 m, .bool hi, .int .u64 (a : Int), .int .u64 (v : Int)]) := D5.new X2.out B3 U3
  clear B3 U3 X2
  generalize w2.heap.size = q at *
  go_upto_region 17 with fail
  have Yd : Hid (D5 w W3.drew b q S S zeroS S2 #[.int .i64 4, .int .i64 n, .int .i64 m, .bool hi, .int .u64 (a : Int), .int .u64 (v : Int)]) := Y3.out.step (Below.drew (Below.refl _ _))
  refine wp_region_held_drew (S := fun V => Box 34 V q (docC S2) ∧ V.cell? ⟨w.heap.size + 1, 1, none⟩ = some (.int .i64 n) ∧ V.cell? ⟨w.heap.size + 1, 4, none⟩ = some (.int .u64 (a : Int)) ∧ V.cell? ⟨w.heap.size + 1, 5, none⟩ = some (.int .u64 (v : Int))) (by kernel_rfl) ⟨Yd.out.2.1, Yd.out.1.2.2.1.cell 1 _ rfl, Yd.out.1.2.2.1.cell 4 _ rfl, Yd.out.1.2.2.1.cell 5 _ rfl⟩ ?_
  intro hS
  refine wpAnyH_take (i := 0) (v := .agg (docC S2)) rfl (by kernel_rfl) (by kernel_rfl) (by kernel_rfl) (fun _ _ _ h => h) (Or.inl ⟨by kernel_rfl, fun V hV => yield_doc hV.1 _ rfl rfl⟩) hS ?_
  (try simp only [Act.put, List.getElem_toArray, List.getElem_cons_succ, List.getElem_cons_zero, List.setIfInBounds_toArray, List.set_cons_zero, List.set_cons_succ])
  refine wpAnyH_take (i := 1) (v := ?_) rfl (by kernel_rfl) (by kernel_rfl) (by kernel_rfl) (fun _ _ _ h => h) (Or.inl ⟨by kernel_rfl, ?_⟩) hS ?_
  rotate_left
  · intro w hSw; (try dsimp only at hSw); go_simp; try (with_reducible rfl)
  (try simp only [Act.put, List.getElem_toArray, List.getElem_cons_succ, List.getElem_cons_zero, List.setIfInBounds_toArray, List.set_cons_zero, List.set_cons_succ])
  refine wpAnyH_take (i := 2) (v := ?_) rfl (by kernel_rfl) (by kernel_rfl) (by kernel_rfl) (fun _ _ _ h => h) (Or.inl ⟨by kernel_rfl, ?_⟩) hS ?_
  rotate_left
  · intro w hSw; (try dsimp only at hSw); go_simp; try (with_reducible rfl)
  (try simp only [Act.put, List.getElem_toArray, List.getElem_cons_succ, List.getElem_cons_zero, List.setIfInBounds_toArray, List.set_cons_zero, List.set_cons_succ])
  refine wpAnyH_take (i := 3) (v := ?_) rfl (by kernel_rfl) (by kernel_rfl) (by kernel_rfl) (fun _ _ _ h => h) (Or.inl ⟨by kernel_rfl, ?_⟩) hS ?_
  rotate_left
  · intro w hSw; (try dsimp only at hSw); go_simp; try (with_reducible rfl)
  (try simp only [Act.put, List.getElem_toArray, List.getElem_cons_succ, List.getElem_cons_zero, List.setIfInBounds_toArray, List.set_cons_zero, List.set_cons_succ])
  refine wpAnyH_take (i := 4) (v := ?_) rfl (by kernel_rfl) (by kernel_rfl) (by kernel_rfl) (fun _ _ _ h => h) (Or.inl ⟨by kernel_rfl, ?_⟩) hS ?_
  rotate_left
  · intro w hSw; (try dsimp only at hSw); go_simp; try (with_reducible rfl)
  (try simp only [Act.put, List.getElem_toArray, List.getElem_cons_succ, List.getElem_cons_zero, List.setIfInBounds_toArray, List.set_cons_zero, List.set_cons_succ])
  refine wpAnyH_take (i := 5) (v := ?_) rfl (by kernel_rfl) (by kernel_rfl) (by kernel_rfl) (fun _ _ _ h => h) (Or.inl ⟨by kernel_rfl, ?_⟩) hS ?_
  rotate_left
  · intro w hSw; (try dsimp only at hSw); go_simp; try (with_reducible rfl)
  (try simp only [Act.put, List.getElem_toArray, List.getElem_cons_succ, List.getElem_cons_zero, List.setIfInBounds_toArray, List.set_cons_zero, List.set_cons_succ])
  refine wpAnyH_take (i := 6) (v := ?_) rfl (by kernel_rfl) (by kernel_rfl) (by kernel_rfl) (fun _ _ _ h => h) (Or.inl ⟨by kernel_rfl, ?_⟩) hS ?_
  rotate_left
  · intro w hSw; (try dsimp only at hSw); go_simp; try (with_reducible rfl)
  (try simp only [Act.put, List.getElem_toArray, List.getElem_cons_succ, List.getElem_cons_zero, List.setIfInBounds_toArray, List.set_cons_zero, List.set_cons_succ])
  refine wpAnyH_take (i := 7) (v := ?_) rfl (by kernel_rfl) (by kernel_rfl) (by kernel_rfl) (fun _ _ _ h => h) (Or.inl ⟨by kernel_rfl, ?_⟩) hS ?_
  rotate_left
  · intro w hSw; (try dsimp only at hSw); go_simp; try (with_reducible rfl)
  (try simp only [Act.put, List.getElem_toArray, List.getElem_cons_succ, List.getElem_cons_zero, List.setIfInBounds_toArray, List.set_cons_zero, List.set_cons_succ])
  refine wpAnyH_take (i := 9) (v := ?_) rfl (by kernel_rfl) (by kernel_rfl) (by kernel_rfl) (fun _ _ _ h => h) (Or.inl ⟨by kernel_rfl, ?_⟩) hS ?_
  rotate_left
  · intro w hSw; (try dsimp only at hSw); go_simp; try (with_reducible rfl)
  (try simp only [Act.put, List.getElem_toArray, List.getElem_cons_succ, List.getElem_cons_zero, List.setIfInBounds_toArray, List.set_cons_zero, List.set_cons_succ])
  refine wpAnyH_ready (rs := [8]) (by kernel_rfl) (by simp) ?_
  refine AllReadyH.cons rfl (fun K1 hK1 => ?_) AllReadyH.nil
  go_simp
  refine (HP.out _ Yd.out.1.1).mono ?_
  rintro e w21 ⟨rfl, hB, hU⟩
  have hb := And.intro hB hU
  clear hB hU
  have X21 : Hid (D5 w w21 b q S S2 zeroS S2 #[.int .i64 4, .int .i64 n, .int .i64 m, .bool hi, .int .u64 (a : Int), .int .u64 (v : Int)]) := Yd.out.prog hb.1 hb.2
  clear hb
  refine hK1.out _ _ ⟨X21.out.2.1, X21.out.1.2.2.1.cell 1 _ rfl, X21.out.1.2.2.1.cell 4 _ rfl, X21.out.1.2.2.1.cell 5 _ rfl⟩ (fun hS21 => ?_)
  clear hK1 K1 hS
  (try simp only [Act.put, List.getElem_toArray, List.getElem_cons_succ, List.getElem_cons_zero, List.setIfInBounds_toArray, List.set_cons_zero, List.set_cons_succ])
  refine wpAnyH_take (i := 10) (v := ?_) rfl (by kernel_rfl) (by kernel_rfl) (by kernel_rfl) (fun _ _ _ h => h) (Or.inl ⟨by kernel_rfl, ?_⟩) hS21 ?_
  rotate_left
  · intro w hSw; (try dsimp only at hSw); go_simp; try (with_reducible rfl)
  (try simp only [Act.put, List.getElem_toArray, List.getElem_cons_succ, List.getElem_cons_zero, List.setIfInBounds_toArray, List.set_cons_zero, List.set_cons_succ])
  refine wpAnyH_ready (rs := [11]) (by kernel_rfl) (by simp) ?_
  refine AllReadyH.cons rfl (fun K1 hK1 => ?_) AllReadyH.nil
  rw [if_pos (by kernel_rfl)]
  refine wp_store_doc _ _ rfl (w.heap.size + 2) S2 (docC zeroS) rfl rfl X21.out.1.2.2.2.1 (by rw [docC_size, docC_size]) ?_
  intro W9 B9 U9
  have Y9 : Hid (D5 w W9 b q S S2 S2 S2 #[.int .i64 4, .int .i64 n, .int .i64 m, .bool hi, .int .u64 (a : Int), .int .u64 (v : Int)]) := X21.out.res B9 U9
  clear B9 U9
  refine hK1.out _ _ ⟨Y9.out.2.1, Y9.out.1.2.2.1.cell 1 _ rfl, Y9.out.1.2.2.1.cell 4 _ rfl, Y9.out.1.2.2.1.cell 5 _ rfl⟩ (fun hS9 => ?_)
  clear hK1 K1 hS21
  (try simp only [Act.put, List.getElem_toArray, List.getElem_cons_succ, List.getElem_cons_zero, List.setIfInBounds_toArray, List.set_cons_zero, List.set_cons_succ])
  refine wpAnyH_take (i := 12) (v := ?_) rfl (by kernel_rfl) (by kernel_rfl) (by kernel_rfl) (fun _ _ _ h => h) (Or.inl ⟨by kernel_rfl, ?_⟩) hS9 ?_
  rotate_left
  · intro w hSw; (try dsimp only at hSw); go_simp; try (with_reducible rfl)
  (try simp only [Act.put, List.getElem_toArray, List.getElem_cons_succ, List.getElem_cons_zero, List.setIfInBounds_toArray, List.set_cons_zero, List.set_cons_succ])
  refine wpAnyH_done (by kernel_rfl) ?_ _
  clear hS9
  have X9 : Hid (D4 w W9 b S S2 S2 #[.int .i64 4, .int .i64 n, .int .i64 m, .bool hi, .int .u64 (a : Int), .int .u64 (v : Int)]) := Y9.out.1
  go_wp2_with fail
  exact bodyPost_ret (v := .tuple #[.agg (docC S2), .bool true]) (resultsD2 (p := 6) (t := 7) rfl _ _ (w.heap.size + 2) S2 rfl X9.out.2.2.2.1) rfl ⟨rfl, X9.out.1, X9.out.2.2.2.2.1⟩
set_option maxHeartbeats 4000000 in
theorem do_load (S S2 : St) (b : Nat) (n m : Int) (hi : Bool) (a v : Nat) (x : Nat) (y : Bool) (HP : Hid (∀ V, Box 28 V b (progC S) → TabLies V → Calls Tryd.prog 29 #[.pointer (some ⟨b, 0, none⟩), .int .u64 (a : Int), .int .i64 n] V fun e w' => e = .returned (.tuple #[.int .u64 (x : Int), .bool y]) ∧ Box 28 w' b (progC S2) ∧ Upon b V w')) (HD : Hid (∀ V, Calls Tryd.prog 28 #[.agg (docC S), .int .u64 (a : Int), .int .i64 n] V fun e w' => e = .returned (.tuple #[.agg (docC S2), .int .u64 (x : Int), .bool y]) ∧ Below V.heap.size V w')) (w : World) (hx : Box 28 w b (progC S)) (ht : TabLies w) (hb : b ≠ 0) : Calls Tryd.prog 14 #[.pointer (some ⟨b, 0, none⟩), .agg (docC S), .agg #[.int .i64 3, .int .i64 n, .int .i64 m, .bool hi, .int .u64 (a : Int), .int .u64 (v : Int)]] w fun e w' => e = .returned (.tuple #[.agg (docC S2), .bool true]) ∧ Box 28 w' b (progC S2) ∧ Upon b w w' := by
  have hxx : ((x : Int) == (x : Int)) = true := by simp
  have hyy : (y == y) = true := by simp
  go_enter Tryd.func14, Tryd.ntmps14
  go_upto_region 0 with fail
  refine wp_region_list ?_
  refine wpList_box_agg 34 (docC S) _ rfl rfl rfl ?_
  refine wpList_box_agg 41 #[.int .i64 3, .int .i64 n, .int .i64 m, .bool hi, .int .u64 (a : Int), .int .u64 (v : Int)] _ rfl rfl rfl ?_
  refine wpList_alloc_zero 34 (docC zeroS) 194 infoz34 rfl rfl ?_
  rw [show ((w.alloc (.cells (docC S) 34)).alloc (.cells #[.int .i64 3, .int .i64 n, .int .i64 m, .bool hi, .int .u64 (a : Int), .int .u64 (v : Int)] 41)).heap.size = w.heap.size + 2 from by simp, show (w.alloc (.cells (docC S) 34)).heap.size = w.heap.size + 1 from by simp]
  have X0 : Hid (D4 w (((w.alloc (.cells (docC S) 34)).alloc (.cells #[.int .i64 3, .int .i64 n, .int .i64 m, .bool hi, .int .u64 (a : Int), .int .u64 (v : Int)] 41)).alloc (.cells (docC zeroS) 34)) b S S zeroS #[.int .i64 3, .int .i64 n, .int .i64 m, .bool hi, .int .u64 (a : Int), .int .u64 (v : Int)]) := D4.new w b S _ hx ht hb
  clear hx ht hb
  generalize ((w.alloc (.cells (docC S) 34)).alloc (.cells #[.int .i64 3, .int .i64 n, .int .i64 m, .bool hi, .int .u64 (a : Int), .int .u64 (v : Int)] 41)).alloc (.cells (docC zeroS) 34) = W at *
  have c0 := X0.out.2.2.1.cell 0 _ rfl
  have c1 := X0.out.2.2.1.cell 1 _ rfl
  have c4 := X0.out.2.2.1.cell 4 _ rfl
  go_upto_region 12 with fail
  refine wp_region_list ?_
  refine wpList_load_doc rfl _ rfl w.heap.size (S) rfl X0.out.2.1 ?_
  (refine wpList_step (fun KK hKK => ?_); go_simp; refine hKK _ _ ?_; clear hKK KK)
  (refine wpList_step (fun KK hKK => ?_); go_simp; refine hKK _ _ ?_; clear hKK KK)
  (refine wpList_step (fun KK hKK => ?_); go_simp; refine hKK _ _ ?_; clear hKK KK)
  (refine wpList_step (fun KK hKK => ?_); go_simp; refine hKK _ _ ?_; clear hKK KK)
  refine wpList_step (fun KK hKK => ?_)
  go_simp
  refine (HD.out _).mono ?_
  rintro e w2 ⟨rfl, hb2⟩
  have X2 : Hid (D4 w w2 b S S zeroS #[.int .i64 3, .int .i64 n, .int .i64 m, .bool hi, .int .u64 (a : Int), .int .u64 (v : Int)]) := X0.out.step hb2
  clear hb2 X0 c0 c1 c4
  refine hKK _ _ ?_
  clear hKK KK
  (refine wpList_step (fun KK hKK => ?_); go_simp; refine hKK _ _ ?_; clear hKK KK)
  refine wpList_extract_at rfl _ _ _ _ rfl rfl rfl ?_
  refine wpList_extract_at rfl _ _ _ _ rfl rfl rfl ?_
  refine wpList_extract_at rfl _ _ _ _ rfl rfl rfl ?_
  refine wpList_alloc_zero 34 (docC zeroS) 194 infoz34 rfl rfl ?_
  refine wpList_store_doc rfl _ _ rfl w2.heap.size S2 (docC zeroS) rfl rfl (Box.new 34 w2 _) (by rw [docC_size, docC_size]) ?_
  intro W3 B3 U3
  have Y3 : Hid (D5 w W3 b w2.heap.size S S zeroS S2 #[.int .i64 3, .int .i64 n, .int .i64 m, .bool hi, .int .u64 (a : Int), .int .u64 (v : Int)]) := D5.new X2.out B3 U3
  clear B3 U3 X2
  generalize w2.heap.size = q at *
  have c1 := Y3.out.1.2.2.1.cell 1 _ rfl
  have c4 := Y3.out.1.2.2.1.cell 4 _ rfl
  go_wp2_with fail
  refine (HP.out _ Y3.out.1.1 Y3.out.1.2.2.2.2.2.1).mono ?_
  rintro e w4 ⟨rfl, hB, hU⟩
  have Y4 : Hid (D5 w w4 b q S S2 zeroS S2 #[.int .i64 3, .int .i64 n, .int .i64 m, .bool hi, .int .u64 (a : Int), .int .u64 (v : Int)]) := Y3.out.prog hB hU
  clear hB hU c1 c4 Y3
  go_upto_region 14 with fail
  refine wp_region_list ?_
  refine wpList_load_doc rfl _ rfl q (S2) rfl Y4.out.2.1 ?_
  (refine wpList_step (fun KK hKK => ?_); go_simp; refine hKK _ _ ?_; clear hKK KK)
  (refine wpList_step (fun KK hKK => ?_); go_simp; refine hKK _ _ ?_; clear hKK KK)
  (refine wpList_step (fun KK hKK => ?_); go_simp; refine hKK _ _ ?_; clear hKK KK)
  (refine wpList_step (fun KK hKK => ?_); go_simp; refine hKK _ _ ?_; clear hKK KK)
  (refine wpList_step (fun KK hKK => ?_); go_simp; refine hKK _ _ ?_; clear hKK KK)
  (refine wpList_step (fun KK hKK => ?_); go_simp; refine hKK _ _ ?_; clear hKK KK)
  (refine wpList_step (fun KK hKK => ?_); go_simp; refine hKK _ _ ?_; clear hKK KK)
  (refine wpList_step (fun KK hKK => ?_); go_simp; refine hKK _ _ ?_; clear hKK KK)
  refine wpList_store_doc rfl _ _ rfl (w.heap.size + 2) S2 (docC zeroS) rfl rfl Y4.out.1.2.2.2.1 (by rw [docC_size, docC_size]) ?_
  intro W9 B9 U9
  have X9 : Hid (D4 w W9 b S S2 S2 #[.int .i64 3, .int .i64 n, .int .i64 m, .bool hi, .int .u64 (a : Int), .int .u64 (v : Int)]) := Y4.out.1.res B9 U9
  clear B9 U9
  go_wp2_with fail
  exact bodyPost_ret (v := .tuple #[.agg (docC S2), .bool true]) (resultsD2 (p := 6) (t := 7) rfl _ _ (w.heap.size + 2) S2 rfl X9.out.2.2.2.1) rfl ⟨rfl, X9.out.1, X9.out.2.2.2.2.1⟩
theorem nat_of {n : Int} (h : 0 ≤ n) : ∃ k : Nat, n = k := ⟨n.toNat, by omega⟩
theorem keep_in {b : Nat} {S : St} {w : World} {e0 : Ending} {F : Nat} {av : Array Value} (hx : Box 28 w b (progC S)) (h : Calls Tryd.prog F av w fun e w' => e = e0 ∧ Below w.heap.size w w') : Calls Tryd.prog F av w fun e w' => e = e0 ∧ Box 28 w' b (progC S) ∧ Upon b w w' := by
  refine h.mono ?_
  rintro e w' ⟨rfl, hb⟩
  exact ⟨rfl, hx.step hb, Upon.of_below hb⟩
theorem do_any (S : St) (hS : S.Ok) (b : Nat) (kd n m : Int) (hi : Bool) (a v : Nat) (ha : a < 18446744073709551616) (hv : v < 18446744073709551616) : ∃ S2 : St, S2.Ok ∧ ∀ w, Box 28 w b (progC S) → TabLies w → b ≠ 0 → Calls Tryd.prog 14 #[.pointer (some ⟨b, 0, none⟩), .agg (docC S), .agg #[.int .i64 kd, .int .i64 n, .int .i64 m, .bool hi, .int .u64 (a : Int), .int .u64 (v : Int)]] w fun e w' => e = .returned (.tuple #[.agg (docC S2), .bool true]) ∧ Box 28 w' b (progC S2) ∧ Upon b w w' := by
  by_cases k0 : kd = 0
  · subst k0
    cases h : (decide (1 ≤ n) && decide (n < 32))
    · exact ⟨S, hS, fun w hx ht hb => do_line S S b n m hi a v (fun V hV => same_in hV (line_no b n hi h V)) (fun V => dline_no S n hi h V) w hx ht hb⟩
    · simp at h
      obtain ⟨k, rfl⟩ := nat_of (show 0 ≤ n from by omega)
      exact ⟨lineS S k hi, lineS_ok hS k hi (by omega), fun w hx ht hb => do_line S _ b k m hi a v (fun V hV => line_any b k hi (by omega) (by omega) S hS V hV) (fun V => dline_any S hS k hi (by omega) (by omega) V) w hx ht hb⟩
  by_cases k1 : kd = 1
  · subst k1
    cases h : (decide (0 ≤ n) && decide (n < 2))
    · exact ⟨S, hS, fun w hx ht hb => do_take S S b n m hi a v 0 (fun V hV _ => same_in hV (take_no b n h V)) (fun V => dtake_no S n h V) w hx ht hb⟩
    · simp at h
      obtain ⟨k, rfl⟩ := nat_of h.1
      exact ⟨takeS S k, takeS_ok hS k, fun w hx ht hb => do_take S _ b k m hi a v _ (fun V hV ht => take_any b k (by omega) S hS V hV ht) (fun V => dtake_any S k (by omega) V) w hx ht hb⟩
  by_cases k2 : kd = 2
  · subst k2
    cases h : (decide (0 ≤ n) && decide (n < 2))
    · exact ⟨S, hS, fun w hx ht hb => do_done S S b n m hi a v (fun V hV => keep_in hV (done_ctx b n m h V)) (fun V => ddone_no S n m (.inl h) V) w hx ht hb⟩
    · cases h2 : (decide (1 ≤ m) && decide (m < 32))
      · simp at h
        obtain ⟨k, rfl⟩ := nat_of h.1
        exact ⟨S, hS, fun w hx ht hb => do_done S S b k m hi a v (fun V hV => keep_in hV (done_src b k m (by omega) h2 V)) (fun V => ddone_no S k m (.inr h2) V) w hx ht hb⟩
      · simp at h h2
        obtain ⟨k, rfl⟩ := nat_of h.1
        obtain ⟨j, rfl⟩ := nat_of (show 0 ≤ m from by omega)
        exact ⟨doneS S k j, doneS_ok hS k j (by omega), fun w hx ht hb => do_done S _ b k j hi a v (fun V hV => done_any b k j (by omega) (by omega) (by omega) S hS V hV) (fun V => ddone_any S hS k j (by omega) (by omega) (by omega) V) w hx ht hb⟩
  by_cases k3 : kd = 3
  · subst k3
    cases h : mayB a n
    · exact ⟨S, hS, fun w hx ht hb => do_load S S b n m hi a v 0 false (fun V hV _ => same_in hV (load_no b a n ha h V)) (fun V => dload_no S a n ha h V) w hx ht hb⟩
    · exact ⟨loadS S a, loadS_ok hS a, fun w hx ht hb => do_load S _ b n m hi a v _ true (fun V hV ht => load_any b a n S hS ha h V hV ht) (fun V => dload_any S a n hS ha h V) w hx ht hb⟩
  by_cases k4 : kd = 4
  · subst k4
    cases h : mayB a n
    · exact ⟨S, hS, fun w hx ht hb => do_store S S b n m hi a v false (fun V hV => same_in hV (store_no b a v n ha h V)) (fun V => dstore_no S a v n ha h V) w hx ht hb⟩
    · exact ⟨storeS S a v, storeS_ok hS a v, fun w hx ht hb => do_store S _ b n m hi a v true (fun V hV => store_any b a n v hv S hS ha h V hV) (fun V => dstore_any S a n v hv hS ha h V) w hx ht hb⟩
  exact ⟨S, hS, fun w hx ht hb => do_else S b kd n m hi a v ⟨k0, k1, k2, k3, k4⟩ w hx ht hb⟩
end Go.Proofs.YtpedollliahldaaDoor
