/- The call 'do' of the statements: a call at both sides. -/
import Derived.Test.YtpedollliahldaaDoorSa
namespace Go.Proofs.YtpedollliahldaaDoor
open Go.RowKit
set_option linter.unusedVariables false
set_option linter.unusedSimpArgs false
set_option maxRecDepth 100000
theorem Upon.and {b q : Nat} {w W W' : World} (h : Upon b w W) (hu : Upon q W W') (hq : w.heap.size ≤ q) : Upon b w W' := ⟨h.1.trans hu.1, fun k hk hb => (hu.2 k (Nat.lt_of_lt_of_le hk h.size) (by omega)).trans (h.2 k hk hb)⟩
def D4 (w W : World) (b : Nat) (S Sc Sr : St) (O : Array Value) : Prop := Box 28 W b (progC Sc) ∧ Box 34 W w.heap.size (docC S) ∧ Box 41 W (w.heap.size + 1) O ∧ Box 34 W (w.heap.size + 2) (docC Sr) ∧ Upon b w W ∧ TabLies W ∧ b < w.heap.size ∧ b ≠ 0
section
variable {w W W' : World} {b : Nat} {S Sc Sr S2 : St} {O : Array Value}
theorem D4.step (h : D4 w W b S Sc Sr O) (hb : Below W.heap.size W W') : D4 w W' b S Sc Sr O := by
  obtain ⟨h1, h2, h3, h4, h5, h6, h7, h8⟩ := h
  exact ⟨h1.step hb, h2.step hb, h3.step hb, h4.step hb, h5.trans (Upon.of_below hb), h6.step hb, h7, h8⟩
theorem D4.prog (h : D4 w W b S Sc Sr O) (hx : Box 28 W' b (progC S2)) (hu : Upon b W W') : D4 w W' b S S2 Sr O := by
  obtain ⟨h1, h2, h3, h4, h5, h6, h7, h8⟩ := h
  exact ⟨hx, hu.box h2 (by omega), hu.box h3 (by omega), hu.box h4 (by omega), h5.trans hu, h6.upon hu h8, h7, h8⟩
theorem D4.res (h : D4 w W b S Sc Sr O) (hx : Box 34 W' (w.heap.size + 2) (docC S2)) (hu : Upon (w.heap.size + 2) W W') : D4 w W' b S Sc S2 O := by
  obtain ⟨h1, h2, h3, h4, h5, h6, h7, h8⟩ := h
  have hs := h5.size
  exact ⟨hu.box h1 (by omega), hu.box h2 (by omega), hu.box h3 (by omega), hx, h5.and hu (by omega), h6.upon hu (by omega), h7, h8⟩
end
theorem D4.new (w : World) (b : Nat) (S : St) (O : Array Value) (hx : Box 28 w b (progC S)) (ht : TabLies w) (hb : b ≠ 0) : D4 w (((w.alloc (.cells (docC S) 34)).alloc (.cells O 41)).alloc (.cells (docC zeroS) 34)) b S S zeroS O := by
  have b1 : Below w.heap.size w (w.alloc (.cells (docC S) 34)) := (Below.refl _ _).alloc (Nat.le_refl _) _
  have b2 : Below w.heap.size w ((w.alloc (.cells (docC S) 34)).alloc (.cells O 41)) := b1.alloc b1.size _
  have b3 : Below w.heap.size w (((w.alloc (.cells (docC S) 34)).alloc (.cells O 41)).alloc (.cells (docC zeroS) 34)) := b2.alloc b2.size _
  have c2 := Box.new 41 (w.alloc (.cells (docC S) 34)) O
  rw [show (w.alloc (.cells (docC S) 34)).heap.size = w.heap.size + 1 from by simp] at c2
  have c3 := Box.new 34 ((w.alloc (.cells (docC S) 34)).alloc (.cells O 41)) (docC zeroS)
  rw [show ((w.alloc (.cells (docC S) 34)).alloc (.cells O 41)).heap.size = w.heap.size + 2 from by simp] at c3
  exact ⟨hx.step b3, ((Box.new 34 w _).alloc _).alloc _, c2.alloc _, c3, Upon.of_below b3, ht.step b3, hx.lt, hb⟩
set_option maxHeartbeats 2000000 in
theorem do_line (S S2 : St) (b : Nat) (n m : Int) (hi : Bool) (a v : Nat) (HP : Hid (∀ V, Box 28 V b (progC S) → Calls Tryd.prog 10 #[.pointer (some ⟨b, 0, none⟩), .int .i64 n, .bool hi] V fun e w' => e = .returned (.tuple #[]) ∧ Box 28 w' b (progC S2) ∧ Upon b V w')) (HD : Hid (∀ V, Calls Tryd.prog 25 #[.agg (docC S), .int .i64 n, .bool hi] V fun e w' => e = .returned (.agg (docC S2)) ∧ Below V.heap.size V w')) (w : World) (hx : Box 28 w b (progC S)) (ht : TabLies w) (hb : b ≠ 0) : Calls Tryd.prog 14 #[.pointer (some ⟨b, 0, none⟩), .agg (docC S), .agg #[.int .i64 0, .int .i64 n, .int .i64 m, .bool hi, .int .u64 (a : Int), .int .u64 (v : Int)]] w fun e w' => e = .returned (.tuple #[.agg (docC S2), .bool true]) ∧ Box 28 w' b (progC S2) ∧ Upon b w w' := by
  go_enter Tryd.func14, Tryd.ntmps14
  go_upto_region 0 with fail
  refine wp_region_list ?_
  refine wpList_box_agg 34 (docC S) _ rfl rfl rfl ?_
  refine wpList_box_agg 41 #[.int .i64 0, .int .i64 n, .int .i64 m, .bool hi, .int .u64 (a : Int), .int .u64 (v : Int)] _ rfl rfl rfl ?_
  refine wpList_alloc_zero 34 (docC zeroS) 194 infoz34 rfl rfl ?_
  rw [show ((w.alloc (.cells (docC S) 34)).alloc (.cells #[.int .i64 0, .int .i64 n, .int .i64 m, .bool hi, .int .u64 (a : Int), .int .u64 (v : Int)] 41)).heap.size = w.heap.size + 2 from by simp, show (w.alloc (.cells (docC S) 34)).heap.size = w.heap.size + 1 from by simp]
  have X0 : Hid (D4 w (((w.alloc (.cells (docC S) 34)).alloc (.cells #[.int .i64 0, .int .i64 n, .int .i64 m, .bool hi, .int .u64 (a : Int), .int .u64 (v : Int)] 41)).alloc (.cells (docC zeroS) 34)) b S S zeroS #[.int .i64 0, .int .i64 n, .int .i64 m, .bool hi, .int .u64 (a : Int), .int .u64 (v : Int)]) := D4.new w b S _ hx ht hb
  clear hx ht hb
  generalize ((w.alloc (.cells (docC S) 34)).alloc (.cells #[.int .i64 0, .int .i64 n, .int .i64 m, .bool hi, .int .u64 (a : Int), .int .u64 (v : Int)] 41)).alloc (.cells (docC zeroS) 34) = W at *
  have c0 := X0.out.2.2.1.cell 0 _ rfl
  have c1 := X0.out.2.2.1.cell 1 _ rfl
  have c3 := X0.out.2.2.1.cell 3 _ rfl
  go_wp2_with fail
  refine (HP.out _ X0.out.1).mono ?_
  rintro e w1 ⟨rfl, hB, hU⟩
  have X1 : Hid (D4 w w1 b S S2 zeroS #[.int .i64 0, .int .i64 n, .int .i64 m, .bool hi, .int .u64 (a : Int), .int .u64 (v : Int)]) := X0.out.prog hB hU
  clear hB hU c0 c1 c3
  have c1 := X1.out.2.2.1.cell 1 _ rfl
  have c3 := X1.out.2.2.1.cell 3 _ rfl
  go_upto_region 4 with fail
  refine wp_region_list ?_
  refine wpList_load_doc rfl _ rfl w.heap.size (S) rfl X1.out.2.1 ?_
  (refine wpList_step (fun KK hKK => ?_); go_simp; refine hKK _ _ ?_; clear hKK KK)
  (refine wpList_step (fun KK hKK => ?_); go_simp; refine hKK _ _ ?_; clear hKK KK)
  (refine wpList_step (fun KK hKK => ?_); go_simp; refine hKK _ _ ?_; clear hKK KK)
  (refine wpList_step (fun KK hKK => ?_); go_simp; refine hKK _ _ ?_; clear hKK KK)
  refine wpList_step (fun KK hKK => ?_)
  go_simp
  refine (HD.out _).mono ?_
  rintro e w2 ⟨rfl, hb2⟩
  have X2 : Hid (D4 w w2 b S S2 zeroS #[.int .i64 0, .int .i64 n, .int .i64 m, .bool hi, .int .u64 (a : Int), .int .u64 (v : Int)]) := X1.out.step hb2
  clear hb2
  refine hKK _ _ ?_
  clear hKK KK
  refine wpList_store_doc rfl _ _ rfl (w.heap.size + 2) S2 (docC zeroS) rfl rfl X2.out.2.2.2.1 (by rw [docC_size, docC_size]) ?_
  intro W9 B9 U9
  have X9 : Hid (D4 w W9 b S S2 S2 #[.int .i64 0, .int .i64 n, .int .i64 m, .bool hi, .int .u64 (a : Int), .int .u64 (v : Int)]) := X2.out.res B9 U9
  clear B9 U9
  go_wp2_with fail
  exact bodyPost_ret (v := .tuple #[.agg (docC S2), .bool true]) (resultsD2 (p := 6) (t := 7) rfl _ _ (w.heap.size + 2) S2 rfl X9.out.2.2.2.1) rfl ⟨rfl, X9.out.1, X9.out.2.2.2.2.1⟩
set_option maxHeartbeats 2000000 in
theorem do_done (S S2 : St) (b : Nat) (n m : Int) (hi : Bool) (a v : Nat) (HP : Hid (∀ V, Box 28 V b (progC S) → Calls Tryd.prog 11 #[.pointer (some ⟨b, 0, none⟩), .int .i64 n, .int .i64 m] V fun e w' => e = .returned (.tuple #[]) ∧ Box 28 w' b (progC S2) ∧ Upon b V w')) (HD : Hid (∀ V, Calls Tryd.prog 27 #[.agg (docC S), .int .i64 n, .int .i64 m] V fun e w' => e = .returned (.agg (docC S2)) ∧ Below V.heap.size V w')) (w : World) (hx : Box 28 w b (progC S)) (ht : TabLies w) (hb : b ≠ 0) : Calls Tryd.prog 14 #[.pointer (some ⟨b, 0, none⟩), .agg (docC S), .agg #[.int .i64 2, .int .i64 n, .int .i64 m, .bool hi, .int .u64 (a : Int), .int .u64 (v : Int)]] w fun e w' => e = .returned (.tuple #[.agg (docC S2), .bool true]) ∧ Box 28 w' b (progC S2) ∧ Upon b w w' := by
  go_enter Tryd.func14, Tryd.ntmps14
  go_upto_region 0 with fail
  refine wp_region_list ?_
  refine wpList_box_agg 34 (docC S) _ rfl rfl rfl ?_
  refine wpList_box_agg 41 #[.int .i64 2, .int .i64 n, .int .i64 m, .bool hi, .int .u64 (a : Int), .int .u64 (v : Int)] _ rfl rfl rfl ?_
  refine wpList_alloc_zero 34 (docC zeroS) 194 infoz34 rfl rfl ?_
  rw [show ((w.alloc (.cells (docC S) 34)).alloc (.cells #[.int .i64 2, .int .i64 n, .int .i64 m, .bool hi, .int .u64 (a : Int), .int .u64 (v : Int)] 41)).heap.size = w.heap.size + 2 from by simp, show (w.alloc (.cells (docC S) 34)).heap.size = w.heap.size + 1 from by simp]
  have X0 : Hid (D4 w (((w.alloc (.cells (docC S) 34)).alloc (.cells #[.int .i64 2, .int .i64 n, .int .i64 m, .bool hi, .int .u64 (a : Int), .int .u64 (v : Int)] 41)).alloc (.cells (docC zeroS) 34)) b S S zeroS #[.int .i64 2, .int .i64 n, .int .i64 m, .bool hi, .int .u64 (a : Int), .int .u64 (v : Int)]) := D4.new w b S _ hx ht hb
  clear hx ht hb
  generalize ((w.alloc (.cells (docC S) 34)).alloc (.cells #[.int .i64 2, .int .i64 n, .int .i64 m, .bool hi, .int .u64 (a : Int), .int .u64 (v : Int)] 41)).alloc (.cells (docC zeroS) 34) = W at *
  have c0 := X0.out.2.2.1.cell 0 _ rfl
  have c1 := X0.out.2.2.1.cell 1 _ rfl
  have c2 := X0.out.2.2.1.cell 2 _ rfl
  go_wp2_with fail
  refine (HP.out _ X0.out.1).mono ?_
  rintro e w1 ⟨rfl, hB, hU⟩
  have X1 : Hid (D4 w w1 b S S2 zeroS #[.int .i64 2, .int .i64 n, .int .i64 m, .bool hi, .int .u64 (a : Int), .int .u64 (v : Int)]) := X0.out.prog hB hU
  clear hB hU c0 c1 c2
  have c1 := X1.out.2.2.1.cell 1 _ rfl
  have c2 := X1.out.2.2.1.cell 2 _ rfl
  go_upto_region 10 with fail
  refine wp_region_list ?_
  refine wpList_load_doc rfl _ rfl w.heap.size (S) rfl X1.out.2.1 ?_
  (refine wpList_step (fun KK hKK => ?_); go_simp; refine hKK _ _ ?_; clear hKK KK)
  (refine wpList_step (fun KK hKK => ?_); go_simp; refine hKK _ _ ?_; clear hKK KK)
  (refine wpList_step (fun KK hKK => ?_); go_simp; refine hKK _ _ ?_; clear hKK KK)
  (refine wpList_step (fun KK hKK => ?_); go_simp; refine hKK _ _ ?_; clear hKK KK)
  refine wpList_step (fun KK hKK => ?_)
  go_simp
  refine (HD.out _).mono ?_
  rintro e w2 ⟨rfl, hb2⟩
  have X2 : Hid (D4 w w2 b S S2 zeroS #[.int .i64 2, .int .i64 n, .int .i64 m, .bool hi, .int .u64 (a : Int), .int .u64 (v : Int)]) := X1.out.step hb2
  clear hb2
  refine hKK _ _ ?_
  clear hKK KK
  refine wpList_store_doc rfl _ _ rfl (w.heap.size + 2) S2 (docC zeroS) rfl rfl X2.out.2.2.2.1 (by rw [docC_size, docC_size]) ?_
  intro W9 B9 U9
  have X9 : Hid (D4 w W9 b S S2 S2 #[.int .i64 2, .int .i64 n, .int .i64 m, .bool hi, .int .u64 (a : Int), .int .u64 (v : Int)]) := X2.out.res B9 U9
  clear B9 U9
  go_wp2_with fail
  exact bodyPost_ret (v := .tuple #[.agg (docC S2), .bool true]) (resultsD2 (p := 6) (t := 7) rfl _ _ (w.heap.size + 2) S2 rfl X9.out.2.2.2.1) rfl ⟨rfl, X9.out.1, X9.out.2.2.2.2.1⟩
set_option maxHeartbeats 2000000 in
theorem do_else (S : St) (b : Nat) (kd n m : Int) (hi : Bool) (a v : Nat) (hk : kd ≠ 0 ∧ kd ≠ 1 ∧ kd ≠ 2 ∧ kd ≠ 3 ∧ kd ≠ 4) (w : World) (hx : Box 28 w b (progC S)) (ht : TabLies w) (hb : b ≠ 0) : Calls Tryd.prog 14 #[.pointer (some ⟨b, 0, none⟩), .agg (docC S), .agg #[.int .i64 kd, .int .i64 n, .int .i64 m, .bool hi, .int .u64 (a : Int), .int .u64 (v : Int)]] w fun e w' => e = .returned (.tuple #[.agg (docC S), .bool true]) ∧ Box 28 w' b (progC S) ∧ Upon b w w' := by
  have e0 : (kd == 0) = false := by simp; omega
  have e1 : (kd == 1) = false := by simp; omega
  have e2 : (kd == 2) = false := by simp; omega
  have e3 : (kd == 3) = false := by simp; omega
  have e4 : (kd == 4) = false := by simp; omega
  clear hk
  go_enter Tryd.func14, Tryd.ntmps14
  go_upto_region 0 with fail
  refine wp_region_list ?_
  refine wpList_box_agg 34 (docC S) _ rfl rfl rfl ?_
  refine wpList_box_agg 41 #[.int .i64 kd, .int .i64 n, .int .i64 m, .bool hi, .int .u64 (a : Int), .int .u64 (v : Int)] _ rfl rfl rfl ?_
  refine wpList_alloc_zero 34 (docC zeroS) 194 infoz34 rfl rfl ?_
  rw [show ((w.alloc (.cells (docC S) 34)).alloc (.cells #[.int .i64 kd, .int .i64 n, .int .i64 m, .bool hi, .int .u64 (a : Int), .int .u64 (v : Int)] 41)).heap.size = w.heap.size + 2 from by simp, show (w.alloc (.cells (docC S) 34)).heap.size = w.heap.size + 1 from by simp]
  have X0 : Hid (D4 w (((w.alloc (.cells (docC S) 34)).alloc (.cells #[.int .i64 kd, .int .i64 n, .int .i64 m, .bool hi, .int .u64 (a : Int), .int .u64 (v : Int)] 41)).alloc (.cells (docC zeroS) 34)) b S S zeroS #[.int .i64 kd, .int .i64 n, .int .i64 m, .bool hi, .int .u64 (a : Int), .int .u64 (v : Int)]) := D4.new w b S _ hx ht hb
  clear hx ht hb
  generalize ((w.alloc (.cells (docC S) 34)).alloc (.cells #[.int .i64 kd, .int .i64 n, .int .i64 m, .bool hi, .int .u64 (a : Int), .int .u64 (v : Int)] 41)).alloc (.cells (docC zeroS) 34) = W at *
  have c0 := X0.out.2.2.1.cell 0 _ rfl
  go_upto_region 18 with fail
  refine wp_region_list ?_
  refine wpList_load_doc rfl _ rfl w.heap.size (S) rfl X0.out.2.1 ?_
  refine wpList_store_doc rfl _ _ rfl (w.heap.size + 2) S (docC zeroS) rfl rfl X0.out.2.2.2.1 (by rw [docC_size, docC_size]) ?_
  intro W9 B9 U9
  have X9 : Hid (D4 w W9 b S S S #[.int .i64 kd, .int .i64 n, .int .i64 m, .bool hi, .int .u64 (a : Int), .int .u64 (v : Int)]) := X0.out.res B9 U9
  clear B9 U9
  go_wp2_with fail
  exact bodyPost_ret (v := .tuple #[.agg (docC S), .bool true]) (resultsD2 (p := 6) (t := 7) rfl _ _ (w.heap.size + 2) S rfl X9.out.2.2.2.1) rfl ⟨rfl, X9.out.1, X9.out.2.2.2.2.1⟩
end Go.Proofs.YtpedollliahldaaDoor
