/- The program's call Encode of layer 3. -/
import Derived.Test.YtooaafbdjnlmfaaGreatDoorIn
import Derived.Deep.RegionHeld3
namespace Go.Proofs.YtooaafbdjnlmfaaGreatDoor
open Go.RowKit
set_option linter.unusedVariables false
set_option linter.unusedSimpArgs false
set_option maxRecDepth 100000 in
set_option maxHeartbeats 400000 in
theorem encode_no (op rd rs1 rs2 imm csr : Int) (aq rl : Bool) (w : World) (ht : Tabs w) (h : rightB op rd rs1 rs2 imm csr aq rl = false) :
    Calls Tryz.prog 25 #[.agg (instrC op rd rs1 rs2 imm csr aq rl)] w fun e w' => e = .returned (.tuple #[.int .u32 0, .int .i64 30]) ∧ Below w.heap.size w w' := by
  have T : Hid (Tabs (w.alloc (.cells (instrC op rd rs1 rs2 imm csr aq rl) 23))) := ht.below ((Below.refl _ _).alloc (Nat.le_refl _) _)
  have B : Hid _ := (Below.refl w.heap.size w).alloc (Nat.le_refl _) (.cells (instrC op rd rs1 rs2 imm csr aq rl) 23)
  have he := rightE_no h
  clear ht h
  go_enter Tryz.func25, Tryz.ntmps25
  go_wp2_with (first | (go_at_call 24; refine (right_any op rd rs1 rs2 imm csr aq rl _ T.out).mono ?_; rw [he]; rintro e w1 ⟨rfl, hb1⟩))
  go_ret2
  exact ⟨rfl, B.out.trans (hb1.mono (by simp))⟩
set_option maxRecDepth 100000 in
set_option maxHeartbeats 1000000 in
theorem encode_raw (op : Nat) (rd rs1 rs2 csr : Nat) (imm : Int) (aq rl : Bool) (Wd P I f : Nat) (w : World) (ht : TabsE w) (h : rightB op rd rs1 rs2 imm csr aq rl = true) (hop : op < 99) (hW : Wd = wordsT.getD op 0)
    (hP : ∀ w, Calls Tryz.prog 58 #[.agg (instrC op rd rs1 rs2 imm csr aq rl)] w fun e w' => e = .returned (.int .u32 (P : Nat)) ∧ Below w.heap.size w w')
    (hF : ∀ w, Tabs w → Calls Tryz.prog 55 #[.int .i64 (op : Nat)] w fun e w' => e = .returned (.int .u8 (f : Nat)) ∧ w' = w)
    (hI : ∀ w, Calls Tryz.prog 59 #[.int .u8 (f : Nat), .int .i64 imm] w fun e w' => e = .returned (.int .u32 (I : Nat)) ∧ Below w.heap.size w w')
    (hor : bits .or .u32 (bits .or .u32 (Wd : Int) (P : Int)) (I : Int) = ((Wd + P + I : Nat) : Int)) :
    Calls Tryz.prog 25 #[.agg (instrC op rd rs1 rs2 imm csr aq rl)] w fun e w' => e = .returned (.tuple #[.int .u32 (Wd + P + I : Nat), .int .i64 0]) ∧ Below w.heap.size w w' := by
  have T : Hid (TabsE (w.alloc (.cells (instrC op rd rs1 rs2 imm csr aq rl) 23))) := ht.below ((Below.refl _ _).alloc (Nat.le_refl _) _)
  have B : Hid (_ ∧ _) := ⟨(Below.refl w.heap.size w).alloc (Nat.le_refl _) (.cells (instrC op rd rs1 rs2 imm csr aq rl) 23), heap_alloc_new w (.cells (instrC op rd rs1 rs2 imm csr aq rl) 23)⟩
  have he := rightE_yes h
  have HW : Hid (_ ∧ _) := ⟨fun (w : World) (t : TabsE w) => (show w.cell? ⟨2, op, none⟩ = some (.int .u32 (Wd : Nat)) from by rw [hW]; exact t.1 op hop), hor⟩
  have hop1 : (op : Int) < 99 := by omega
  clear ht h hW hor
  generalize hS : ((Wd + P + I : Nat) : Int) = sum at *
  have HS : Hid _ := hS
  clear hS
  go_enter Tryz.func25, Tryz.ntmps25
  go_wp2_with (first | (go_at_call 24; refine (right_any op rd rs1 rs2 imm csr aq rl _ T.out.2).mono ?_; rw [he]; rintro e w1 ⟨rfl, hb1⟩))
  have x1 := below_box B.out.2 hb1
  have t1 : TabsE w1 := T.out.below hb1
  have g1 : Below w.heap.size w w1 := B.out.1.trans (hb1.mono (by simp))
  have hcw : w1.cell? ⟨2, op, none⟩ = some (.int .u32 (Wd : Nat)) := HW.out.1 _ t1
  obtain ⟨q0, q1, q2, q3, q4, q5, q6, q7⟩ := box8_facts x1
  have X : Hid (_ ∧ _ ∧ _) := ⟨x1, t1, g1⟩
  clear x1 t1 g1 hb1
  go_region_held3 (fun W => W.cell? ⟨2, op, none⟩ = some (.int .u32 (Wd : Nat)) ∧ W.cell? ⟨w.heap.size, 0, none⟩ = some (.int .i64 (op : Nat)) ∧ W.cell? ⟨w.heap.size, 1, none⟩ = some (.int .i64 (rd : Nat)) ∧ W.cell? ⟨w.heap.size, 2, none⟩ = some (.int .i64 (rs1 : Nat)) ∧ W.cell? ⟨w.heap.size, 3, none⟩ = some (.int .i64 (rs2 : Nat)) ∧ W.cell? ⟨w.heap.size, 4, none⟩ = some (.int .i64 imm) ∧ W.cell? ⟨w.heap.size, 5, none⟩ = some (.int .i64 (csr : Nat)) ∧ W.cell? ⟨w.heap.size, 6, none⟩ = some (.bool aq) ∧ W.cell? ⟨w.heap.size, 7, none⟩ = some (.bool rl)) (go_keep) (first | (go_at_call 55; refine (hF _ (by exact Y.out.2.1.2)).mono ?_; rintro e w3 ⟨rfl, hw3⟩; rw [hw3]; clear hw3) | (go_at_call 59; refine (hI _).mono ?_; rintro e w4 ⟨rfl, hb4⟩; have x4 := below_box (by exact Y.out.1) hb4; have t4 : TabsE w4 := TabsE.below (by exact Y.out.2.1) hb4; obtain ⟨z0, z1, z2, z3, z4, z5, z6, z7⟩ := box8_facts x4; have hcw4 : w4.cell? ⟨2, op, none⟩ = some (.int .u32 (Wd : Nat)) := HW.out.1 _ t4; have Z : Hid _ := hb4; clear x4 t4 hb4) | (go_at_call 58; refine (hP _).mono ?_; rintro e w2 ⟨rfl, hb2⟩; have x2 := below_box (by exact X.out.1) hb2; have t2 : TabsE w2 := TabsE.below (by exact X.out.2.1) hb2; obtain ⟨r0, r1, r2, r3, r4, r5, r6, r7⟩ := box8_facts x2; have hcw2 : w2.cell? ⟨2, op, none⟩ = some (.int .u32 (Wd : Nat)) := HW.out.1 _ t2; have Y : Hid (_ ∧ _ ∧ _) := ⟨x2, t2, hb2⟩; clear x2 t2 hb2))
  go_wp2
  go_ret2
  exact ⟨by rw [← HW.out.2]; rfl, (X.out.2.2.drew.trans (Y.out.2.2.mono X.out.2.2.size)).trans (Z.out.mono (Nat.le_trans X.out.2.2.size Y.out.2.2.size))⟩
end Go.Proofs.YtooaafbdjnlmfaaGreatDoor
