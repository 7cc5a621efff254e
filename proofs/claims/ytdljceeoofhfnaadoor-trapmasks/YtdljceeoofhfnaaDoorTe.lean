/- The program's calls toSupervisor, toMachine and Enter of layer 9. -/
import Derived.Test.YtdljceeoofhfnaaDoorTc
namespace Go.Proofs.YtdljceeoofhfnaaDoor
open Go.RowKit Go.Maps
set_option linter.unusedVariables false
set_option linter.unusedSimpArgs false
set_option maxRecDepth 100000
theorem info36 : (Tryd.prog.info? 36).map (·.size) = some 3 := by kernel_rfl
theorem load_trap {w : World} {b c v : Nat} {i : Bool} (h : Box 36 w b (trapC c v i)) : (loadVar 36 ⟨b, 0, none⟩).run Tryd.prog w = .ok (.agg (trapC c v i)) w := run_loadVar_row w b 36 36 _ (0, 0) _ h Tryd.underlying36 rfl info36
theorem yield_trap {w : World} {o : Oper} {a : Act} {b c v : Nat} {i : Bool} (hw : Box 36 w b (trapC c v i)) (x : Operand) (hop : o.op = Op.load 36 x) (hx : a.eval x = .pointer (some ⟨b, 0, none⟩)) : (execOp a.eval o).run Tryd.prog w = .ok (.value (.agg (trapC c v i))) w := by
  simp only [execOp, hop, hx, Instr.loadAt, Instr.sureAddr, Sem.run_bind, Sem.run_pure, Result.andThen_ok, load_trap hw]
section
variable {w : World} {ops : Array Oper} {rest : List Oper} {o : Oper} {a : Act} {Q : Exit → Act → World → Prop}
theorem wpList_load_trap (hg : o.guard = none) (x : Operand) (ho : o.op = .load 36 x) (b c v : Nat) (i : Bool) (hx : a.eval x = .pointer (some ⟨b, 0, none⟩)) (hb : Box 36 w b (trapC c v i))
    (h : wpList Tryd.prog ops Q rest (a.put o.dst (.agg (trapC c v i))) w) : wpList Tryd.prog ops Q (o :: rest) a w :=
  wpList_load_row hg 36 x ho b hx 36 _ (0, 0) _ hb Tryd.underlying36 rfl info36 h
end
/-- a file and a trap of the call's own -/
def Tf (w W : World) (b : Nat) (m : Int) (K : Nat → Nat) (c v : Nat) (i : Bool) : Prop := Box 29 W b (fileC m K) ∧ Box 36 W w.heap.size (trapC c v i) ∧ Upon b w W ∧ b < w.heap.size
section
variable {w W W' : World} {b : Nat} {m : Int} {K : Nat → Nat} {c v : Nat} {i : Bool}
theorem Tf.step (h : Tf w W b m K c v i) (hb : Below W.heap.size W W') : Tf w W' b m K c v i := ⟨h.1.step hb, h.2.1.step hb, h.2.2.1.trans (Upon.of_below hb), h.2.2.2⟩
theorem Tf.file (h : Tf w W b m K c v i) {m2 : Int} {K2 : Nat → Nat} (hb : Box 29 W' b (fileC m2 K2)) (hu : Upon b W W') : Tf w W' b m2 K2 c v i := ⟨hb, hu.box h.2.1 (by have := h.2.2.2; omega), h.2.2.1.trans hu, h.2.2.2⟩
theorem Tf.new (hB : Box 29 w b (fileC m K)) (c v : Nat) (i : Bool) : Tf w (w.alloc (.cells (trapC c v i) 36)) b m K c v i := ⟨hB.alloc _, (trap_new w c v i).1, Upon.of_below (trap_new w c v i).2, hB.lt⟩
theorem Tf.set15 (h : Tf w W b m K c v i) (x : Nat) : Tf w (W.setCell ⟨b, 16, none⟩ (.int .u64 (x : Int))) b m (upd K 15 x) c v i := h.file (by rw [← (set_fileC _ _ _).2.2.2.2.2.2.2.2.2.2.2.2.2.2.2.1]; exact h.1.set 16 _) ((Upon.refl _ _).set 16 _)
theorem Tf.set16 (h : Tf w W b m K c v i) (x : Nat) : Tf w (W.setCell ⟨b, 17, none⟩ (.int .u64 (x : Int))) b m (upd K 16 x) c v i := h.file (by rw [← (set_fileC _ _ _).2.2.2.2.2.2.2.2.2.2.2.2.2.2.2.2.1]; exact h.1.set 17 _) ((Upon.refl _ _).set 17 _)
theorem Tf.set17 (h : Tf w W b m K c v i) (x : Nat) : Tf w (W.setCell ⟨b, 18, none⟩ (.int .u64 (x : Int))) b m (upd K 17 x) c v i := h.file (by rw [← (set_fileC _ _ _).2.2.2.2.2.2.2.2.2.2.2.2.2.2.2.2.2.1]; exact h.1.set 18 _) ((Upon.refl _ _).set 18 _)
theorem Tf.set9 (h : Tf w W b m K c v i) (x : Nat) : Tf w (W.setCell ⟨b, 10, none⟩ (.int .u64 (x : Int))) b m (upd K 9 x) c v i := h.file (by rw [← (set_fileC _ _ _).2.2.2.2.2.2.2.2.2.1]; exact h.1.set 10 _) ((Upon.refl _ _).set 10 _)
theorem Tf.set10 (h : Tf w W b m K c v i) (x : Nat) : Tf w (W.setCell ⟨b, 11, none⟩ (.int .u64 (x : Int))) b m (upd K 10 x) c v i := h.file (by rw [← (set_fileC _ _ _).2.2.2.2.2.2.2.2.2.2.1]; exact h.1.set 11 _) ((Upon.refl _ _).set 11 _)
theorem Tf.set11 (h : Tf w W b m K c v i) (x : Nat) : Tf w (W.setCell ⟨b, 12, none⟩ (.int .u64 (x : Int))) b m (upd K 11 x) c v i := h.file (by rw [← (set_fileC _ _ _).2.2.2.2.2.2.2.2.2.2.2.1]; exact h.1.set 12 _) ((Upon.refl _ _).set 12 _)
theorem Tf.mode (h : Tf w W b m K c v i) (x : Int) : Tf w (W.setCell ⟨b, 0, none⟩ (.int .i64 x)) b x K c v i := h.file (by rw [← mode_fileC m x K]; exact h.1.set 0 _) ((Upon.refl _ _).set 0 _)
end
set_option maxHeartbeats 4000000 in
theorem sup_any (m : Int) (K : Nat → Nat) (c v : Nat) (i : Bool) (pc b : Nat) (hK : Ok K) (hc : c < 64) (hv : v < 18446744073709551616) (hp : pc < 18446744073709551616) (w : World) (hB : Box 29 w b (fileC m K)) : Calls Tryd.prog 24 #[.pointer (some ⟨b, 0, none⟩), .agg (trapC c v i), .int .u64 (pc : Int)] w fun e w' => e = .returned (.int .u64 (placeN (K 12) c i : Nat)) ∧ Box 29 w' b (fileC 1 (markS (tellS K c v i pc) m)) ∧ Upon b w w' := by
  have X0 : Hid (Tf w (w.alloc (.cells (trapC c v i) 36)) b m K c v i) := Tf.new hB c v i
  have HK3 : Hid (Ok (tellS K c v i pc)) := tellS_ok hK c v i pc hc hv hp
  have hlow := andNot_low pc hp
  have HCW : Hid (∀ V, Calls Tryd.prog 38 #[.agg (trapC c v i)] V fun e w' => e = .returned (.int .u64 (causeN c i : Nat)) ∧ Below V.heap.size V w') := fun V => cause_any c v i hc V
  have HPL : Hid (∀ V, Calls Tryd.prog 40 #[.int .u64 (K 12 : Nat), .agg (trapC c v i)] V fun e w' => e = .returned (.int .u64 (placeN (K 12) c i : Nat)) ∧ Below V.heap.size V w') := fun V => place_any (K 12) c v i (hK _) hc V
  clear hB hK hc hv hp
  go_enter Tryd.func24, Tryd.ntmps24
  go_upto_region 1 with fail
  generalize (w.alloc (.cells (trapC c v i) 36)) = W at *
  have X0d : Hid (Tf w W.drew b m K c v i) := X0.out.step (below_drew1 _)
  refine wp_region_held_drew (S := fun V => Box 36 V w.heap.size (trapC c v i) ∧ V.cell? ⟨w.heap.size, 1, none⟩ = some (.int .u64 (v : Int))) (by kernel_rfl) ⟨X0d.out.2.1, X0d.out.2.1.cell 1 _ rfl⟩ ?_
  intro hS
  refine wpAnyH_take (i := 0) (v := ?_) rfl (by kernel_rfl) (by kernel_rfl) (by kernel_rfl) (fun _ _ _ h => h) (Or.inl ⟨by kernel_rfl, ?_⟩) hS ?_
  rotate_left
  · intro w hSw; (try dsimp only at hSw); go_simp; try (with_reducible rfl)
  (try simp only [Act.put, List.getElem_toArray, List.getElem_cons_succ, List.getElem_cons_zero, List.setIfInBounds_toArray, List.set_cons_zero, List.set_cons_succ])
  refine wpAnyH_take (i := 1) (v := ?_) rfl (by kernel_rfl) (by kernel_rfl) (by kernel_rfl) (fun _ _ _ h => h) (Or.inl ⟨by kernel_rfl, ?_⟩) hS ?_
  rotate_left
  · intro w hSw; (try dsimp only at hSw); go_simp; try (with_reducible rfl)
  (try simp only [Act.put, List.getElem_toArray, List.getElem_cons_succ, List.getElem_cons_zero, List.setIfInBounds_toArray, List.set_cons_zero, List.set_cons_succ])
  refine wpAnyH_take (i := 2) (v := ?_) rfl (by kernel_rfl) (by kernel_rfl) (by kernel_rfl) (fun _ _ _ h => h) (Or.inl ⟨by kernel_rfl, ?_⟩) hS ?_
  rotate_left
  · intro w hSw; (try dsimp only at hSw); go_simp; try (with_reducible rfl)
  (try simp only [Act.put, List.getElem_toArray, List.getElem_cons_succ, List.getElem_cons_zero, List.setIfInBounds_toArray, List.set_cons_zero, List.set_cons_succ])
  refine wpAnyH_take (i := 3) (v := .agg (trapC c v i)) rfl (by kernel_rfl) (by kernel_rfl) (by kernel_rfl) (fun _ _ _ h => h) (Or.inl ⟨by kernel_rfl, fun V hV => yield_trap hV.1 _ rfl rfl⟩) hS ?_
  (try simp only [Act.put, List.getElem_toArray, List.getElem_cons_succ, List.getElem_cons_zero, List.setIfInBounds_toArray, List.set_cons_zero, List.set_cons_succ])
  refine wpAnyH_take (i := 5) (v := ?_) rfl (by kernel_rfl) (by kernel_rfl) (by kernel_rfl) (fun _ _ _ h => h) (Or.inl ⟨by kernel_rfl, ?_⟩) hS ?_
  rotate_left
  · intro w hSw; (try dsimp only at hSw); go_simp; try (with_reducible rfl)
  (try simp only [Act.put, List.getElem_toArray, List.getElem_cons_succ, List.getElem_cons_zero, List.setIfInBounds_toArray, List.set_cons_zero, List.set_cons_succ])
  refine wpAnyH_take (i := 6) (v := ?_) rfl (by kernel_rfl) (by kernel_rfl) (by kernel_rfl) (fun _ _ _ h => h) (Or.inl ⟨by kernel_rfl, ?_⟩) hS ?_
  rotate_left
  · intro w hSw; (try dsimp only at hSw); go_simp; try (with_reducible rfl)
  (try simp only [Act.put, List.getElem_toArray, List.getElem_cons_succ, List.getElem_cons_zero, List.setIfInBounds_toArray, List.set_cons_zero, List.set_cons_succ])
  refine wpAnyH_take (i := 7) (v := ?_) rfl (by kernel_rfl) (by kernel_rfl) (by kernel_rfl) (fun _ _ _ h => h) (Or.inl ⟨by kernel_rfl, ?_⟩) hS ?_
  rotate_left
  · intro w hSw; (try dsimp only at hSw); go_simp; try (with_reducible rfl)
  (try simp only [Act.put, List.getElem_toArray, List.getElem_cons_succ, List.getElem_cons_zero, List.setIfInBounds_toArray, List.set_cons_zero, List.set_cons_succ])
  refine wpAnyH_take (i := 8) (v := ?_) rfl (by kernel_rfl) (by kernel_rfl) (by kernel_rfl) (fun _ _ _ h => h) (Or.inl ⟨by kernel_rfl, ?_⟩) hS ?_
  rotate_left
  · intro w hSw; (try dsimp only at hSw); go_simp; try (with_reducible rfl)
  (try simp only [Act.put, List.getElem_toArray, List.getElem_cons_succ, List.getElem_cons_zero, List.setIfInBounds_toArray, List.set_cons_zero, List.set_cons_succ])
  refine wpAnyH_ready (rs := [4]) (by kernel_rfl) (by simp) ?_
  refine AllReadyH.cons rfl (fun K1 hK1 => ?_) AllReadyH.nil
  go_simp
  refine (HCW.out _).mono ?_
  rintro e w1 ⟨rfl, hb1⟩
  have X1 : Hid (Tf w w1 b m K c v i) := X0d.out.step hb1
  clear hb1
  refine hK1.out _ _ ⟨X1.out.2.1, X1.out.2.1.cell 1 _ rfl⟩ (fun hS2 => ?_)
  clear hK1 K1 hS
  (try simp only [Act.put, List.getElem_toArray, List.getElem_cons_succ, List.getElem_cons_zero, List.setIfInBounds_toArray, List.set_cons_zero, List.set_cons_succ])
  refine wpAnyH_take (i := 9) (v := ?_) rfl (by kernel_rfl) (by kernel_rfl) (by kernel_rfl) (fun _ _ _ h => h) (Or.inl ⟨by kernel_rfl, ?_⟩) hS2 ?_
  rotate_left
  · intro w hSw; (try dsimp only at hSw); go_simp; try (with_reducible rfl)
  (try simp only [Act.put, List.getElem_toArray, List.getElem_cons_succ, List.getElem_cons_zero, List.setIfInBounds_toArray, List.set_cons_zero, List.set_cons_succ])
  refine wpAnyH_take (i := 10) (v := ?_) rfl (by kernel_rfl) (by kernel_rfl) (by kernel_rfl) (fun _ _ _ h => h) (Or.inl ⟨by kernel_rfl, ?_⟩) hS2 ?_
  rotate_left
  · intro w hSw; (try dsimp only at hSw); go_simp; try (with_reducible rfl)
  (try simp only [Act.put, List.getElem_toArray, List.getElem_cons_succ, List.getElem_cons_zero, List.setIfInBounds_toArray, List.set_cons_zero, List.set_cons_succ])
  refine wpAnyH_ready (rs := [11]) (by kernel_rfl) (by simp) ?_
  refine AllReadyH.cons rfl (fun K1 hK1 => ?_) AllReadyH.nil
  have a0 : w1.cell? ⟨b, 17, none⟩ = some (.int .u64 ((K) 16 : Nat)) := X1.out.1.cell 17 _ rfl
  have a1 := X1.out.1.frozen 17
  go_simp
  have X2 : Hid (Tf w (w1.setCell ⟨b, 17, none⟩ (.int .u64 (causeN c i : Nat))) b m (upd K 16 (causeN c i)) c v i) := X1.out.set16 _
  refine hK1.out _ (w1.setCell ⟨b, 17, none⟩ (.int .u64 (causeN c i : Nat))) ⟨X2.out.2.1, X2.out.2.1.cell 1 _ rfl⟩ (fun hS3 => ?_)
  clear hK1 K1 hS2 a0 a1
  generalize w1.setCell ⟨b, 17, none⟩ (.int .u64 (causeN c i : Nat)) = w2 at *
  (try simp only [Act.put, List.getElem_toArray, List.getElem_cons_succ, List.getElem_cons_zero, List.setIfInBounds_toArray, List.set_cons_zero, List.set_cons_succ])
  refine wpAnyH_take (i := 12) (v := ?_) rfl (by kernel_rfl) (by kernel_rfl) (by kernel_rfl) (fun _ _ _ h => h) (Or.inl ⟨by kernel_rfl, ?_⟩) hS3 ?_
  rotate_left
  · intro w hSw; (try dsimp only at hSw); go_simp; try (with_reducible rfl)
  (try simp only [Act.put, List.getElem_toArray, List.getElem_cons_succ, List.getElem_cons_zero, List.setIfInBounds_toArray, List.set_cons_zero, List.set_cons_succ])
  refine wpAnyH_take (i := 13) (v := ?_) rfl (by kernel_rfl) (by kernel_rfl) (by kernel_rfl) (fun _ _ _ h => h) (Or.inl ⟨by kernel_rfl, ?_⟩) hS3 ?_
  rotate_left
  · intro w hSw; (try dsimp only at hSw); go_simp; try (with_reducible rfl)
  (try simp only [Act.put, List.getElem_toArray, List.getElem_cons_succ, List.getElem_cons_zero, List.setIfInBounds_toArray, List.set_cons_zero, List.set_cons_succ])
  refine wpAnyH_ready (rs := [14]) (by kernel_rfl) (by simp) ?_
  refine AllReadyH.cons rfl (fun K1 hK1 => ?_) AllReadyH.nil
  have a0 : w2.cell? ⟨b, 16, none⟩ = some (.int .u64 ((upd K 16 (causeN c i)) 15 : Nat)) := X2.out.1.cell 16 _ rfl
  have a1 := X2.out.1.frozen 16
  go_simp
  have X3 : Hid (Tf w (w2.setCell ⟨b, 16, none⟩ (.int .u64 (lowN pc : Nat))) b m (upd (upd K 16 (causeN c i)) 15 (lowN pc)) c v i) := X2.out.set15 _
  refine hK1.out _ (w2.setCell ⟨b, 16, none⟩ (.int .u64 (lowN pc : Nat))) ⟨X3.out.2.1, X3.out.2.1.cell 1 _ rfl⟩ (fun hS4 => ?_)
  clear hK1 K1 hS3 a0 a1
  generalize w2.setCell ⟨b, 16, none⟩ (.int .u64 (lowN pc : Nat)) = w3 at *
  (try simp only [Act.put, List.getElem_toArray, List.getElem_cons_succ, List.getElem_cons_zero, List.setIfInBounds_toArray, List.set_cons_zero, List.set_cons_succ])
  refine wpAnyH_take (i := 15) (v := ?_) rfl (by kernel_rfl) (by kernel_rfl) (by kernel_rfl) (fun _ _ _ h => h) (Or.inl ⟨by kernel_rfl, ?_⟩) hS4 ?_
  rotate_left
  · intro w hSw; (try dsimp only at hSw); go_simp; try (with_reducible rfl)
  (try simp only [Act.put, List.getElem_toArray, List.getElem_cons_succ, List.getElem_cons_zero, List.setIfInBounds_toArray, List.set_cons_zero, List.set_cons_succ])
  refine wpAnyH_take (i := 16) (v := ?_) rfl (by kernel_rfl) (by kernel_rfl) (by kernel_rfl) (fun _ _ _ h => h) (Or.inl ⟨by kernel_rfl, ?_⟩) hS4 ?_
  rotate_left
  · intro w hSw; (try dsimp only at hSw); go_simp; try (with_reducible rfl)
  (try simp only [Act.put, List.getElem_toArray, List.getElem_cons_succ, List.getElem_cons_zero, List.setIfInBounds_toArray, List.set_cons_zero, List.set_cons_succ])
  refine wpAnyH_ready (rs := [17]) (by kernel_rfl) (by simp) ?_
  refine AllReadyH.cons rfl (fun K1 hK1 => ?_) AllReadyH.nil
  have a0 : w3.cell? ⟨b, 18, none⟩ = some (.int .u64 ((upd (upd K 16 (causeN c i)) 15 (lowN pc)) 17 : Nat)) := X3.out.1.cell 18 _ rfl
  have a1 := X3.out.1.frozen 18
  go_simp
  have X4 : Hid (Tf w (w3.setCell ⟨b, 18, none⟩ (.int .u64 (v : Nat))) b m (upd (upd (upd K 16 (causeN c i)) 15 (lowN pc)) 17 v) c v i) := X3.out.set17 _
  refine hK1.out _ (w3.setCell ⟨b, 18, none⟩ (.int .u64 (v : Nat))) ⟨X4.out.2.1, X4.out.2.1.cell 1 _ rfl⟩ (fun hS5 => ?_)
  clear hK1 K1 hS4 a0 a1
  generalize w3.setCell ⟨b, 18, none⟩ (.int .u64 (v : Nat)) = w4 at *
  (try simp only [Act.put, List.getElem_toArray, List.getElem_cons_succ, List.getElem_cons_zero, List.setIfInBounds_toArray, List.set_cons_zero, List.set_cons_succ])
  refine wpAnyH_done (by kernel_rfl) ?_ _
  clear hS5 hlow
  have Y4 : Hid (Tf w w4 b m (tellS K c v i pc) c v i) := X4.out
  have hvec : tellS K c v i pc 12 = K 12 := rfl
  clear X0 X0d X1 X2 X3 X4
  generalize hL : tellS K c v i pc = L at *
  have HL : Hid (tellS K c v i pc = L) := hL
  clear hL
  go_wp2_with fail
  refine (isb_any m L 1 b HK3.out _ Y4.out.1).mono ?_
  rintro e w5 ⟨rfl, hb5⟩
  have X5 : Hid (Tf w w5 b m L c v i) := Y4.out.step hb5
  clear hb5
  go_wp2_with fail
  refine (set_any m L 5 (isB L 1) b HK3.out _ X5.out.1).mono ?_
  rintro e w6 ⟨rfl, hB6, hU6⟩
  have X6 : Hid (Tf w w6 b m (setK L 5 (isB L 1)) c v i) := X5.out.file hB6 hU6
  have HK6 : Hid (Ok (setK L 5 (isB L 1))) := setK_ok HK3.out _ _
  clear hB6 hU6
  go_wp2_with fail
  refine (set_any m (setK L 5 (isB L 1)) 1 false b HK6.out _ X6.out.1).mono ?_
  rintro e w7 ⟨rfl, hB7, hU7⟩
  have X7 : Hid (Tf w w7 b m (setK (setK L 5 (isB L 1)) 1 false) c v i) := X6.out.file hB7 hU7
  have HK7 : Hid (Ok (setK (setK L 5 (isB L 1)) 1 false)) := setK_ok HK6.out _ _
  clear hB7 hU7
  have m0 : w7.cell? ⟨b, 0, none⟩ = some (.int .i64 m) := X7.out.1.cell 0 _ rfl
  go_wp2_with fail
  refine (set_any m _ 8 (m == 1) b HK7.out _ X7.out.1).mono ?_
  rintro e w8 ⟨rfl, hB8, hU8⟩
  have X8 : Hid (Tf w w8 b m (markS L m) c v i) := X7.out.file hB8 hU8
  clear hB8 hU8 m0
  have n0 : w8.cell? ⟨b, 0, none⟩ = some (.int .i64 m) := X8.out.1.cell 0 _ rfl
  have n1 := X8.out.1.frozen 0
  go_upto_region 6 with fail
  have X9 : Hid (Tf w (w8.setCell ⟨b, 0, none⟩ (.int .i64 1)) b 1 (markS L m) c v i) := X8.out.mode 1
  generalize w8.setCell ⟨b, 0, none⟩ (.int .i64 1) = w9 at *
  clear n0 n1
  have hvec2 : markS L m 12 = K 12 := hvec
  have X9d : Hid (Tf w w9.drew b 1 (markS L m) c v i) := X9.out.step (below_drew1 _)
  have HC : Hid (∀ V, Box 29 V b (fileC 1 (markS L m)) → V.cell? ⟨b, 13, none⟩ = some (.int .u64 (K 12 : Nat))) := fun V hV => by rw [← hvec2]; exact hV.cell 13 _ rfl
  clear hvec hvec2
  refine wp_region_held_drew (S := fun V => Box 36 V w.heap.size (trapC c v i) ∧ V.cell? ⟨b, 13, none⟩ = some (.int .u64 (K 12 : Nat))) (by kernel_rfl) ⟨X9d.out.2.1, HC.out _ X9d.out.1⟩ ?_
  intro hS
  refine wpAnyH_take (i := 0) (v := ?_) rfl (by kernel_rfl) (by kernel_rfl) (by kernel_rfl) (fun _ _ _ h => h) (Or.inl ⟨by kernel_rfl, ?_⟩) hS ?_
  rotate_left
  · intro w hSw; (try dsimp only at hSw); go_simp; try (with_reducible rfl)
  (try simp only [Act.put, List.getElem_toArray, List.getElem_cons_succ, List.getElem_cons_zero, List.setIfInBounds_toArray, List.set_cons_zero, List.set_cons_succ])
  refine wpAnyH_take (i := 1) (v := ?_) rfl (by kernel_rfl) (by kernel_rfl) (by kernel_rfl) (fun _ _ _ h => h) (Or.inl ⟨by kernel_rfl, ?_⟩) hS ?_
  rotate_left
  · intro w hSw; (try dsimp only at hSw); go_simp; try (with_reducible rfl)
  (try simp only [Act.put, List.getElem_toArray, List.getElem_cons_succ, List.getElem_cons_zero, List.setIfInBounds_toArray, List.set_cons_zero, List.set_cons_succ])
  refine wpAnyH_take (i := 2) (v := ?_) rfl (by kernel_rfl) (by kernel_rfl) (by kernel_rfl) (fun _ _ _ h => h) (Or.inl ⟨by kernel_rfl, ?_⟩) hS ?_
  rotate_left
  · intro w hSw; (try dsimp only at hSw); go_simp; try (with_reducible rfl)
  (try simp only [Act.put, List.getElem_toArray, List.getElem_cons_succ, List.getElem_cons_zero, List.setIfInBounds_toArray, List.set_cons_zero, List.set_cons_succ])
  refine wpAnyH_take (i := 3) (v := ?_) rfl (by kernel_rfl) (by kernel_rfl) (by kernel_rfl) (fun _ _ _ h => h) (Or.inl ⟨by kernel_rfl, ?_⟩) hS ?_
  rotate_left
  · intro w hSw; (try dsimp only at hSw); go_simp; try (with_reducible rfl)
  (try simp only [Act.put, List.getElem_toArray, List.getElem_cons_succ, List.getElem_cons_zero, List.setIfInBounds_toArray, List.set_cons_zero, List.set_cons_succ])
  refine wpAnyH_take (i := 4) (v := .agg (trapC c v i)) rfl (by kernel_rfl) (by kernel_rfl) (by kernel_rfl) (fun _ _ _ h => h) (Or.inl ⟨by kernel_rfl, fun V hV => yield_trap hV.1 _ rfl rfl⟩) hS ?_
  (try simp only [Act.put, List.getElem_toArray, List.getElem_cons_succ, List.getElem_cons_zero, List.setIfInBounds_toArray, List.set_cons_zero, List.set_cons_succ])
  refine wpAnyH_ready (rs := [5]) (by kernel_rfl) (by simp) ?_
  refine AllReadyH.cons rfl (fun K1 hK1 => ?_) AllReadyH.nil
  go_simp
  refine (HPL.out _).mono ?_
  rintro e w10 ⟨rfl, hb10⟩
  have X10 : Hid (Tf w w10 b 1 (markS L m) c v i) := X9d.out.step hb10
  clear hb10
  refine hK1.out _ _ ⟨X10.out.2.1, HC.out _ X10.out.1⟩ (fun hS2 => ?_)
  clear hK1 K1 hS
  (try simp only [Act.put, List.getElem_toArray, List.getElem_cons_succ, List.getElem_cons_zero, List.setIfInBounds_toArray, List.set_cons_zero, List.set_cons_succ])
  refine wpAnyH_take (i := 6) (v := ?_) rfl (by kernel_rfl) (by kernel_rfl) (by kernel_rfl) (fun _ _ _ h => h) (Or.inl ⟨by kernel_rfl, ?_⟩) hS2 ?_
  rotate_left
  · intro w hSw; (try dsimp only at hSw); go_simp; try (with_reducible rfl)
  (try simp only [Act.put, List.getElem_toArray, List.getElem_cons_succ, List.getElem_cons_zero, List.setIfInBounds_toArray, List.set_cons_zero, List.set_cons_succ])
  refine wpAnyH_done (by kernel_rfl) ?_ _
  clear hS2
  go_wp2_with fail
  go_ret
  exact ⟨rfl, (by rw [HL.out]; exact X10.out.1), X10.out.2.2.1⟩
set_option maxHeartbeats 4000000 in
theorem mac_any (m : Nat) (hm : m ≤ 3) (K : Nat → Nat) (c v : Nat) (i : Bool) (pc b : Nat) (hK : Ok K) (hc : c < 64) (hv : v < 18446744073709551616) (hp : pc < 18446744073709551616) (w : World) (hB : Box 29 w b (fileC m K)) : Calls Tryd.prog 25 #[.pointer (some ⟨b, 0, none⟩), .agg (trapC c v i), .int .u64 (pc : Int)] w fun e w' => e = .returned (.int .u64 (placeN (K 6) c i : Nat)) ∧ Box 29 w' b (fileC 3 (markM (tellM K c v i pc) m)) ∧ Upon b w w' := by
  have X0 : Hid (Tf w (w.alloc (.cells (trapC c v i) 36)) b m K c v i) := Tf.new hB c v i
  have HK3 : Hid (Ok (tellM K c v i pc)) := tellM_ok hK c v i pc hc hv hp
  have hlow := andNot_low pc hp
  have HCW : Hid (∀ V, Calls Tryd.prog 38 #[.agg (trapC c v i)] V fun e w' => e = .returned (.int .u64 (causeN c i : Nat)) ∧ Below V.heap.size V w') := fun V => cause_any c v i hc V
  have HPL : Hid (∀ V, Calls Tryd.prog 40 #[.int .u64 (K 6 : Nat), .agg (trapC c v i)] V fun e w' => e = .returned (.int .u64 (placeN (K 6) c i : Nat)) ∧ Below V.heap.size V w') := fun V => place_any (K 6) c v i (hK _) hc V
  have HM : Hid (m ≤ 3) := hm
  clear hB hK hc hv hp hm
  go_enter Tryd.func25, Tryd.ntmps25
  go_upto_region 1 with fail
  generalize (w.alloc (.cells (trapC c v i) 36)) = W at *
  have X0d : Hid (Tf w W.drew b m K c v i) := X0.out.step (below_drew1 _)
  refine wp_region_held_drew (S := fun V => Box 36 V w.heap.size (trapC c v i) ∧ V.cell? ⟨w.heap.size, 1, none⟩ = some (.int .u64 (v : Int))) (by kernel_rfl) ⟨X0d.out.2.1, X0d.out.2.1.cell 1 _ rfl⟩ ?_
  intro hS
  refine wpAnyH_take (i := 0) (v := ?_) rfl (by kernel_rfl) (by kernel_rfl) (by kernel_rfl) (fun _ _ _ h => h) (Or.inl ⟨by kernel_rfl, ?_⟩) hS ?_
  rotate_left
  · intro w hSw; (try dsimp only at hSw); go_simp; try (with_reducible rfl)
  (try simp only [Act.put, List.getElem_toArray, List.getElem_cons_succ, List.getElem_cons_zero, List.setIfInBounds_toArray, List.set_cons_zero, List.set_cons_succ])
  refine wpAnyH_take (i := 1) (v := ?_) rfl (by kernel_rfl) (by kernel_rfl) (by kernel_rfl) (fun _ _ _ h => h) (Or.inl ⟨by kernel_rfl, ?_⟩) hS ?_
  rotate_left
  · intro w hSw; (try dsimp only at hSw); go_simp; try (with_reducible rfl)
  (try simp only [Act.put, List.getElem_toArray, List.getElem_cons_succ, List.getElem_cons_zero, List.setIfInBounds_toArray, List.set_cons_zero, List.set_cons_succ])
  refine wpAnyH_take (i := 2) (v := ?_) rfl (by kernel_rfl) (by kernel_rfl) (by kernel_rfl) (fun _ _ _ h => h) (Or.inl ⟨by kernel_rfl, ?_⟩) hS ?_
  rotate_left
  · intro w hSw; (try dsimp only at hSw); go_simp; try (with_reducible rfl)
  (try simp only [Act.put, List.getElem_toArray, List.getElem_cons_succ, List.getElem_cons_zero, List.setIfInBounds_toArray, List.set_cons_zero, List.set_cons_succ])
  refine wpAnyH_take (i := 3) (v := .agg (trapC c v i)) rfl (by kernel_rfl) (by kernel_rfl) (by kernel_rfl) (fun _ _ _ h => h) (Or.inl ⟨by kernel_rfl, fun V hV => yield_trap hV.1 _ rfl rfl⟩) hS ?_
  (try simp only [Act.put, List.getElem_toArray, List.getElem_cons_succ, List.getElem_cons_zero, List.setIfInBounds_toArray, List.set_cons_zero, List.set_cons_succ])
  refine wpAnyH_take (i := 5) (v := ?_) rfl (by kernel_rfl) (by kernel_rfl) (by kernel_rfl) (fun _ _ _ h => h) (Or.inl ⟨by kernel_rfl, ?_⟩) hS ?_
  rotate_left
  · intro w hSw; (try dsimp only at hSw); go_simp; try (with_reducible rfl)
  (try simp only [Act.put, List.getElem_toArray, List.getElem_cons_succ, List.getElem_cons_zero, List.setIfInBounds_toArray, List.set_cons_zero, List.set_cons_succ])
  refine wpAnyH_take (i := 6) (v := ?_) rfl (by kernel_rfl) (by kernel_rfl) (by kernel_rfl) (fun _ _ _ h => h) (Or.inl ⟨by kernel_rfl, ?_⟩) hS ?_
  rotate_left
  · intro w hSw; (try dsimp only at hSw); go_simp; try (with_reducible rfl)
  (try simp only [Act.put, List.getElem_toArray, List.getElem_cons_succ, List.getElem_cons_zero, List.setIfInBounds_toArray, List.set_cons_zero, List.set_cons_succ])
  refine wpAnyH_take (i := 7) (v := ?_) rfl (by kernel_rfl) (by kernel_rfl) (by kernel_rfl) (fun _ _ _ h => h) (Or.inl ⟨by kernel_rfl, ?_⟩) hS ?_
  rotate_left
  · intro w hSw; (try dsimp only at hSw); go_simp; try (with_reducible rfl)
  (try simp only [Act.put, List.getElem_toArray, List.getElem_cons_succ, List.getElem_cons_zero, List.setIfInBounds_toArray, List.set_cons_zero, List.set_cons_succ])
  refine wpAnyH_take (i := 8) (v := ?_) rfl (by kernel_rfl) (by kernel_rfl) (by kernel_rfl) (fun _ _ _ h => h) (Or.inl ⟨by kernel_rfl, ?_⟩) hS ?_
  rotate_left
  · intro w hSw; (try dsimp only at hSw); go_simp; try (with_reducible rfl)
  (try simp only [Act.put, List.getElem_toArray, List.getElem_cons_succ, List.getElem_cons_zero, List.setIfInBounds_toArray, List.set_cons_zero, List.set_cons_succ])
  refine wpAnyH_ready (rs := [4]) (by kernel_rfl) (by simp) ?_
  refine AllReadyH.cons rfl (fun K1 hK1 => ?_) AllReadyH.nil
  go_simp
  refine (HCW.out _).mono ?_
  rintro e w1 ⟨rfl, hb1⟩
  have X1 : Hid (Tf w w1 b m K c v i) := X0d.out.step hb1
  clear hb1
  refine hK1.out _ _ ⟨X1.out.2.1, X1.out.2.1.cell 1 _ rfl⟩ (fun hS2 => ?_)
  clear hK1 K1 hS
  (try simp only [Act.put, List.getElem_toArray, List.getElem_cons_succ, List.getElem_cons_zero, List.setIfInBounds_toArray, List.set_cons_zero, List.set_cons_succ])
  refine wpAnyH_take (i := 9) (v := ?_) rfl (by kernel_rfl) (by kernel_rfl) (by kernel_rfl) (fun _ _ _ h => h) (Or.inl ⟨by kernel_rfl, ?_⟩) hS2 ?_
  rotate_left
  · intro w hSw; (try dsimp only at hSw); go_simp; try (with_reducible rfl)
  (try simp only [Act.put, List.getElem_toArray, List.getElem_cons_succ, List.getElem_cons_zero, List.setIfInBounds_toArray, List.set_cons_zero, List.set_cons_succ])
  refine wpAnyH_take (i := 10) (v := ?_) rfl (by kernel_rfl) (by kernel_rfl) (by kernel_rfl) (fun _ _ _ h => h) (Or.inl ⟨by kernel_rfl, ?_⟩) hS2 ?_
  rotate_left
  · intro w hSw; (try dsimp only at hSw); go_simp; try (with_reducible rfl)
  (try simp only [Act.put, List.getElem_toArray, List.getElem_cons_succ, List.getElem_cons_zero, List.setIfInBounds_toArray, List.set_cons_zero, List.set_cons_succ])
  refine wpAnyH_ready (rs := [11]) (by kernel_rfl) (by simp) ?_
  refine AllReadyH.cons rfl (fun K1 hK1 => ?_) AllReadyH.nil
  have a0 : w1.cell? ⟨b, 11, none⟩ = some (.int .u64 ((K) 10 : Nat)) := X1.out.1.cell 11 _ rfl
  have a1 := X1.out.1.frozen 11
  go_simp
  have X2 : Hid (Tf w (w1.setCell ⟨b, 11, none⟩ (.int .u64 (causeN c i : Nat))) b m (upd K 10 (causeN c i)) c v i) := X1.out.set10 _
  refine hK1.out _ (w1.setCell ⟨b, 11, none⟩ (.int .u64 (causeN c i : Nat))) ⟨X2.out.2.1, X2.out.2.1.cell 1 _ rfl⟩ (fun hS3 => ?_)
  clear hK1 K1 hS2 a0 a1
  generalize w1.setCell ⟨b, 11, none⟩ (.int .u64 (causeN c i : Nat)) = w2 at *
  (try simp only [Act.put, List.getElem_toArray, List.getElem_cons_succ, List.getElem_cons_zero, List.setIfInBounds_toArray, List.set_cons_zero, List.set_cons_succ])
  refine wpAnyH_take (i := 12) (v := ?_) rfl (by kernel_rfl) (by kernel_rfl) (by kernel_rfl) (fun _ _ _ h => h) (Or.inl ⟨by kernel_rfl, ?_⟩) hS3 ?_
  rotate_left
  · intro w hSw; (try dsimp only at hSw); go_simp; try (with_reducible rfl)
  (try simp only [Act.put, List.getElem_toArray, List.getElem_cons_succ, List.getElem_cons_zero, List.setIfInBounds_toArray, List.set_cons_zero, List.set_cons_succ])
  refine wpAnyH_take (i := 13) (v := ?_) rfl (by kernel_rfl) (by kernel_rfl) (by kernel_rfl) (fun _ _ _ h => h) (Or.inl ⟨by kernel_rfl, ?_⟩) hS3 ?_
  rotate_left
  · intro w hSw; (try dsimp only at hSw); go_simp; try (with_reducible rfl)
  (try simp only [Act.put, List.getElem_toArray, List.getElem_cons_succ, List.getElem_cons_zero, List.setIfInBounds_toArray, List.set_cons_zero, List.set_cons_succ])
  refine wpAnyH_ready (rs := [14]) (by kernel_rfl) (by simp) ?_
  refine AllReadyH.cons rfl (fun K1 hK1 => ?_) AllReadyH.nil
  have a0 : w2.cell? ⟨b, 10, none⟩ = some (.int .u64 ((upd K 10 (causeN c i)) 9 : Nat)) := X2.out.1.cell 10 _ rfl
  have a1 := X2.out.1.frozen 10
  go_simp
  have X3 : Hid (Tf w (w2.setCell ⟨b, 10, none⟩ (.int .u64 (lowN pc : Nat))) b m (upd (upd K 10 (causeN c i)) 9 (lowN pc)) c v i) := X2.out.set9 _
  refine hK1.out _ (w2.setCell ⟨b, 10, none⟩ (.int .u64 (lowN pc : Nat))) ⟨X3.out.2.1, X3.out.2.1.cell 1 _ rfl⟩ (fun hS4 => ?_)
  clear hK1 K1 hS3 a0 a1
  generalize w2.setCell ⟨b, 10, none⟩ (.int .u64 (lowN pc : Nat)) = w3 at *
  (try simp only [Act.put, List.getElem_toArray, List.getElem_cons_succ, List.getElem_cons_zero, List.setIfInBounds_toArray, List.set_cons_zero, List.set_cons_succ])
  refine wpAnyH_take (i := 15) (v := ?_) rfl (by kernel_rfl) (by kernel_rfl) (by kernel_rfl) (fun _ _ _ h => h) (Or.inl ⟨by kernel_rfl, ?_⟩) hS4 ?_
  rotate_left
  · intro w hSw; (try dsimp only at hSw); go_simp; try (with_reducible rfl)
  (try simp only [Act.put, List.getElem_toArray, List.getElem_cons_succ, List.getElem_cons_zero, List.setIfInBounds_toArray, List.set_cons_zero, List.set_cons_succ])
  refine wpAnyH_take (i := 16) (v := ?_) rfl (by kernel_rfl) (by kernel_rfl) (by kernel_rfl) (fun _ _ _ h => h) (Or.inl ⟨by kernel_rfl, ?_⟩) hS4 ?_
  rotate_left
  · intro w hSw; (try dsimp only at hSw); go_simp; try (with_reducible rfl)
  (try simp only [Act.put, List.getElem_toArray, List.getElem_cons_succ, List.getElem_cons_zero, List.setIfInBounds_toArray, List.set_cons_zero, List.set_cons_succ])
  refine wpAnyH_ready (rs := [17]) (by kernel_rfl) (by simp) ?_
  refine AllReadyH.cons rfl (fun K1 hK1 => ?_) AllReadyH.nil
  have a0 : w3.cell? ⟨b, 12, none⟩ = some (.int .u64 ((upd (upd K 10 (causeN c i)) 9 (lowN pc)) 11 : Nat)) := X3.out.1.cell 12 _ rfl
  have a1 := X3.out.1.frozen 12
  go_simp
  have X4 : Hid (Tf w (w3.setCell ⟨b, 12, none⟩ (.int .u64 (v : Nat))) b m (upd (upd (upd K 10 (causeN c i)) 9 (lowN pc)) 11 v) c v i) := X3.out.set11 _
  refine hK1.out _ (w3.setCell ⟨b, 12, none⟩ (.int .u64 (v : Nat))) ⟨X4.out.2.1, X4.out.2.1.cell 1 _ rfl⟩ (fun hS5 => ?_)
  clear hK1 K1 hS4 a0 a1
  generalize w3.setCell ⟨b, 12, none⟩ (.int .u64 (v : Nat)) = w4 at *
  (try simp only [Act.put, List.getElem_toArray, List.getElem_cons_succ, List.getElem_cons_zero, List.setIfInBounds_toArray, List.set_cons_zero, List.set_cons_succ])
  refine wpAnyH_done (by kernel_rfl) ?_ _
  clear hS5 hlow
  have Y4 : Hid (Tf w w4 b m (tellM K c v i pc) c v i) := X4.out
  have hvec : tellM K c v i pc 6 = K 6 := rfl
  clear X0 X0d X1 X2 X3 X4
  generalize hL : tellM K c v i pc = L at *
  have HL : Hid (tellM K c v i pc = L) := hL
  clear hL
  go_wp2_with fail
  refine (isb_any m L 3 b HK3.out _ Y4.out.1).mono ?_
  rintro e w5 ⟨rfl, hb5⟩
  have X5 : Hid (Tf w w5 b m L c v i) := Y4.out.step hb5
  clear hb5
  go_wp2_with fail
  refine (set_any m L 7 (isB L 3) b HK3.out _ X5.out.1).mono ?_
  rintro e w6 ⟨rfl, hB6, hU6⟩
  have X6 : Hid (Tf w w6 b m (setK L 7 (isB L 3)) c v i) := X5.out.file hB6 hU6
  have HK6 : Hid (Ok (setK L 7 (isB L 3))) := setK_ok HK3.out _ _
  clear hB6 hU6
  go_wp2_with fail
  refine (set_any m (setK L 7 (isB L 3)) 3 false b HK6.out _ X6.out.1).mono ?_
  rintro e w7 ⟨rfl, hB7, hU7⟩
  have X7 : Hid (Tf w w7 b m (setK (setK L 7 (isB L 3)) 3 false) c v i) := X6.out.file hB7 hU7
  have HK7 : Hid (Ok (setK (setK L 7 (isB L 3)) 3 false)) := setK_ok HK6.out _ _
  clear hB7 hU7
  have m0 : w7.cell? ⟨b, 0, none⟩ = some (.int .i64 m) := X7.out.1.cell 0 _ rfl
  go_wp2_with fail
  refine (keepk_any m _ m b HM.out HK7.out _ X7.out.1).mono ?_
  rintro e w8 ⟨rfl, hB8, hU8⟩
  have X8 : Hid (Tf w w8 b m (markM L m) c v i) := X7.out.file hB8 hU8
  clear hB8 hU8 m0
  have n0 : w8.cell? ⟨b, 0, none⟩ = some (.int .i64 m) := X8.out.1.cell 0 _ rfl
  have n1 := X8.out.1.frozen 0
  go_upto_region 6 with fail
  have X9 : Hid (Tf w (w8.setCell ⟨b, 0, none⟩ (.int .i64 3)) b 3 (markM L m) c v i) := X8.out.mode 3
  generalize w8.setCell ⟨b, 0, none⟩ (.int .i64 3) = w9 at *
  clear n0 n1
  have hvec2 : markM L m 6 = K 6 := hvec
  have X9d : Hid (Tf w w9.drew b 3 (markM L m) c v i) := X9.out.step (below_drew1 _)
  have HC : Hid (∀ V, Box 29 V b (fileC 3 (markM L m)) → V.cell? ⟨b, 7, none⟩ = some (.int .u64 (K 6 : Nat))) := fun V hV => by rw [← hvec2]; exact hV.cell 7 _ rfl
  clear hvec hvec2
  refine wp_region_held_drew (S := fun V => Box 36 V w.heap.size (trapC c v i) ∧ V.cell? ⟨b, 7, none⟩ = some (.int .u64 (K 6 : Nat))) (by kernel_rfl) ⟨X9d.out.2.1, HC.out _ X9d.out.1⟩ ?_
  intro hS
  refine wpAnyH_take (i := 0) (v := ?_) rfl (by kernel_rfl) (by kernel_rfl) (by kernel_rfl) (fun _ _ _ h => h) (Or.inl ⟨by kernel_rfl, ?_⟩) hS ?_
  rotate_left
  · intro w hSw; (try dsimp only at hSw); go_simp; try (with_reducible rfl)
  (try simp only [Act.put, List.getElem_toArray, List.getElem_cons_succ, List.getElem_cons_zero, List.setIfInBounds_toArray, List.set_cons_zero, List.set_cons_succ])
  refine wpAnyH_take (i := 1) (v := ?_) rfl (by kernel_rfl) (by kernel_rfl) (by kernel_rfl) (fun _ _ _ h => h) (Or.inl ⟨by kernel_rfl, ?_⟩) hS ?_
  rotate_left
  · intro w hSw; (try dsimp only at hSw); go_simp; try (with_reducible rfl)
  (try simp only [Act.put, List.getElem_toArray, List.getElem_cons_succ, List.getElem_cons_zero, List.setIfInBounds_toArray, List.set_cons_zero, List.set_cons_succ])
  refine wpAnyH_take (i := 2) (v := ?_) rfl (by kernel_rfl) (by kernel_rfl) (by kernel_rfl) (fun _ _ _ h => h) (Or.inl ⟨by kernel_rfl, ?_⟩) hS ?_
  rotate_left
  · intro w hSw; (try dsimp only at hSw); go_simp; try (with_reducible rfl)
  (try simp only [Act.put, List.getElem_toArray, List.getElem_cons_succ, List.getElem_cons_zero, List.setIfInBounds_toArray, List.set_cons_zero, List.set_cons_succ])
  refine wpAnyH_take (i := 3) (v := ?_) rfl (by kernel_rfl) (by kernel_rfl) (by kernel_rfl) (fun _ _ _ h => h) (Or.inl ⟨by kernel_rfl, ?_⟩) hS ?_
  rotate_left
  · intro w hSw; (try dsimp only at hSw); go_simp; try (with_reducible rfl)
  (try simp only [Act.put, List.getElem_toArray, List.getElem_cons_succ, List.getElem_cons_zero, List.setIfInBounds_toArray, List.set_cons_zero, List.set_cons_succ])
  refine wpAnyH_take (i := 4) (v := .agg (trapC c v i)) rfl (by kernel_rfl) (by kernel_rfl) (by kernel_rfl) (fun _ _ _ h => h) (Or.inl ⟨by kernel_rfl, fun V hV => yield_trap hV.1 _ rfl rfl⟩) hS ?_
  (try simp only [Act.put, List.getElem_toArray, List.getElem_cons_succ, List.getElem_cons_zero, List.setIfInBounds_toArray, List.set_cons_zero, List.set_cons_succ])
  refine wpAnyH_ready (rs := [5]) (by kernel_rfl) (by simp) ?_
  refine AllReadyH.cons rfl (fun K1 hK1 => ?_) AllReadyH.nil
  go_simp
  refine (HPL.out _).mono ?_
  rintro e w10 ⟨rfl, hb10⟩
  have X10 : Hid (Tf w w10 b 3 (markM L m) c v i) := X9d.out.step hb10
  clear hb10
  refine hK1.out _ _ ⟨X10.out.2.1, HC.out _ X10.out.1⟩ (fun hS2 => ?_)
  clear hK1 K1 hS
  (try simp only [Act.put, List.getElem_toArray, List.getElem_cons_succ, List.getElem_cons_zero, List.setIfInBounds_toArray, List.set_cons_zero, List.set_cons_succ])
  refine wpAnyH_take (i := 6) (v := ?_) rfl (by kernel_rfl) (by kernel_rfl) (by kernel_rfl) (fun _ _ _ h => h) (Or.inl ⟨by kernel_rfl, ?_⟩) hS2 ?_
  rotate_left
  · intro w hSw; (try dsimp only at hSw); go_simp; try (with_reducible rfl)
  (try simp only [Act.put, List.getElem_toArray, List.getElem_cons_succ, List.getElem_cons_zero, List.setIfInBounds_toArray, List.set_cons_zero, List.set_cons_succ])
  refine wpAnyH_done (by kernel_rfl) ?_ _
  clear hS2
  go_wp2_with fail
  go_ret
  exact ⟨rfl, (by rw [HL.out]; exact X10.out.1), X10.out.2.2.1⟩
set_option maxHeartbeats 1000000 in
theorem enter_yes (m : Nat) (hm : m ≤ 3) (K : Nat → Nat) (c v : Nat) (i : Bool) (pc b : Nat) (hK : Ok K) (hc : c < 64) (hv : v < 18446744073709551616) (hp : pc < 18446744073709551616) (hd : delB m K c i = true) (w : World) (hB : Box 29 w b (fileC m K)) : Calls Tryd.prog 13 #[.pointer (some ⟨b, 0, none⟩), .agg (trapC c v i), .int .u64 (pc : Int)] w fun e w' => e = .returned (.int .u64 (placeN (K 12) c i : Nat)) ∧ Box 29 w' b (fileC 1 (markS (tellS K c v i pc) m)) ∧ Upon b w w' := by
  have X0 : Hid (Tf w (w.alloc (.cells (trapC c v i) 36)) b m K c v i) := Tf.new hB c v i
  have HD : Hid (∀ V, Box 29 V b (fileC m K) → Calls Tryd.prog 12 #[.pointer (some ⟨b, 0, none⟩), .agg (trapC c v i)] V fun e w' => e = .returned (.bool true) ∧ Below V.heap.size V w') := fun V hV => by rw [← hd]; exact deleg_any m K c v i b hK V hV
  have HT := fun V hV => sup_any (m : Int) K c v i pc b hK hc hv hp V hV
  generalize markS (tellS K c v i pc) m = L at *
  generalize placeN (K 12) c i = y at *
  clear hB hK hc hv hp hm hd
  go_enter Tryd.func13, Tryd.ntmps13
  go_upto_region 1 with fail
  generalize (w.alloc (.cells (trapC c v i) 36)) = W at *
  refine wp_region_list ?_
  (refine wpList_step (fun KK hKK => ?_); go_simp; refine hKK _ _ ?_; clear hKK KK)
  refine wpList_load_trap rfl _ rfl _ c v i rfl X0.out.2.1 ?_
  refine wpList_step (fun KK hKK => ?_)
  go_simp
  refine (HD.out _ X0.out.1).mono ?_
  rintro e w1 ⟨rfl, hb1⟩
  have X1 : Hid (Tf w w1 b m K c v i) := X0.out.step hb1
  clear hb1
  refine hKK _ _ ?_
  clear hKK KK
  go_upto_region 2 with fail
  refine wp_region_list ?_
  (refine wpList_step (fun KK hKK => ?_); go_simp; refine hKK _ _ ?_; clear hKK KK)
  refine wpList_load_trap rfl _ rfl _ c v i rfl X1.out.2.1 ?_
  (refine wpList_step (fun KK hKK => ?_); go_simp; refine hKK _ _ ?_; clear hKK KK)
  refine wpList_step (fun KK hKK => ?_)
  go_simp
  refine (HT _ X1.out.1).mono ?_
  rintro e w2 ⟨rfl, hB2, hU2⟩
  have X2 : Hid (Tf w w2 b 1 L c v i) := X1.out.file hB2 hU2
  clear hB2 hU2
  refine hKK _ _ ?_
  clear hKK KK
  go_wp2_with fail
  go_ret
  exact ⟨rfl, X2.out.1, X2.out.2.2.1⟩
set_option maxHeartbeats 1000000 in
theorem enter_no (m : Nat) (hm : m ≤ 3) (K : Nat → Nat) (c v : Nat) (i : Bool) (pc b : Nat) (hK : Ok K) (hc : c < 64) (hv : v < 18446744073709551616) (hp : pc < 18446744073709551616) (hd : delB m K c i = false) (w : World) (hB : Box 29 w b (fileC m K)) : Calls Tryd.prog 13 #[.pointer (some ⟨b, 0, none⟩), .agg (trapC c v i), .int .u64 (pc : Int)] w fun e w' => e = .returned (.int .u64 (placeN (K 6) c i : Nat)) ∧ Box 29 w' b (fileC 3 (markM (tellM K c v i pc) m)) ∧ Upon b w w' := by
  have X0 : Hid (Tf w (w.alloc (.cells (trapC c v i) 36)) b m K c v i) := Tf.new hB c v i
  have HD : Hid (∀ V, Box 29 V b (fileC m K) → Calls Tryd.prog 12 #[.pointer (some ⟨b, 0, none⟩), .agg (trapC c v i)] V fun e w' => e = .returned (.bool false) ∧ Below V.heap.size V w') := fun V hV => by rw [← hd]; exact deleg_any m K c v i b hK V hV
  have HT := fun V hV => mac_any m hm K c v i pc b hK hc hv hp V hV
  generalize markM (tellM K c v i pc) m = L at *
  generalize placeN (K 6) c i = y at *
  clear hB hK hc hv hp hm hd
  go_enter Tryd.func13, Tryd.ntmps13
  go_upto_region 1 with fail
  generalize (w.alloc (.cells (trapC c v i) 36)) = W at *
  refine wp_region_list ?_
  (refine wpList_step (fun KK hKK => ?_); go_simp; refine hKK _ _ ?_; clear hKK KK)
  refine wpList_load_trap rfl _ rfl _ c v i rfl X0.out.2.1 ?_
  refine wpList_step (fun KK hKK => ?_)
  go_simp
  refine (HD.out _ X0.out.1).mono ?_
  rintro e w1 ⟨rfl, hb1⟩
  have X1 : Hid (Tf w w1 b m K c v i) := X0.out.step hb1
  clear hb1
  refine hKK _ _ ?_
  clear hKK KK
  go_upto_region 3 with fail
  refine wp_region_list ?_
  (refine wpList_step (fun KK hKK => ?_); go_simp; refine hKK _ _ ?_; clear hKK KK)
  refine wpList_load_trap rfl _ rfl _ c v i rfl X1.out.2.1 ?_
  (refine wpList_step (fun KK hKK => ?_); go_simp; refine hKK _ _ ?_; clear hKK KK)
  refine wpList_step (fun KK hKK => ?_)
  go_simp
  refine (HT _ X1.out.1).mono ?_
  rintro e w2 ⟨rfl, hB2, hU2⟩
  have X2 : Hid (Tf w w2 b 3 L c v i) := X1.out.file hB2 hU2
  clear hB2 hU2
  refine hKK _ _ ?_
  clear hKK KK
  go_wp2_with fail
  go_ret
  exact ⟨rfl, X2.out.1, X2.out.2.2.1⟩
end Go.Proofs.YtdljceeoofhfnaaDoor
